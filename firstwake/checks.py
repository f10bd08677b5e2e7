"""Checks: what accesses find in all runs, early reads, and accesses that need no check."""

from firstwake.errors import NoAccess, TooLong
from firstwake.needs import need_access, need_status
from firstwake.programs import MOST_INPUTS, checked_accesses, is_read, need_program
from firstwake.walks import all_runs


def statuses(program):
    """Return a dict from each access that some run comes to to the ascending tuple of the statuses it finds there."""
    need_program(program)
    return told_statuses(all_runs(program).first_finds)


def status_run(program, body, place, status):
    """Return the fewest inputs of a run that finds the status at the access, or None."""
    need_program(program)
    need_access(program, body, place)
    need_status(status)
    runs = all_runs(program)
    return _fewest_inputs(runs, runs.first_finds, (body, place, status))


def early_reads(program):
    """Return the ascending list of the reads that are early in some run."""
    need_program(program)
    return sorted(all_runs(program).first_early)


def early_run(program, body, place):
    """Return the fewest inputs of a run in which the read is early, or None."""
    need_program(program)
    if not is_read(program, body, place):
        raise NoAccess("this is no read of the program")
    runs = all_runs(program)
    return _fewest_inputs(runs, runs.first_early, (body, place))


def needless(program):
    """Return the ascending list of the accesses, not of a "wake", whose check does nothing in any run."""
    need_program(program)
    return unneeded(program, all_runs(program).first_finds)


def told_statuses(found):
    """Return a dict from each access in a dict of finds to the ascending tuple of its statuses there."""
    told = {}
    for body, place, status in sorted(found):
        told.setdefault((body, place), []).append(status)
    return {access: tuple(told[access]) for access in told}


def unneeded(program, found):
    """Return the ascending list of the accesses, not of a "wake", that a dict of finds has not as asleep or broken."""
    return [
        (body, place) for body, place in checked_accesses(program)
        if (body, place, "asleep") not in found and (body, place, "broken") not in found
    ]


def _fewest_inputs(runs, firsts, wanted):
    """Return the inputs that lead to the first configuration behind which the wanted is, None if it is nowhere."""
    if wanted not in firsts:
        return None
    inputs = runs.search.steps_to(firsts[wanted])
    if len(inputs) > MOST_INPUTS:
        raise TooLong("this takes too many inputs")
    return inputs
