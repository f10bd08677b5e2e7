"""Guards: what callers find at accesses, which checks they can spare, and the cheapest units ahead for that."""

from firstwake.errors import NoState
from firstwake.moves import FAILED, NEEDING, Threads
from firstwake.needs import need_access, need_callers, need_order, need_prices, need_unchecked
from firstwake.programs import checked_accesses, need_program
from firstwake.schedules import priced_tuples
from firstwake.searches import spread_evenly
from firstwake.values import is_same

WORDS = ("asleep", "awake", "broken", "self", "other")


def caller_finds(program, callers, ahead):
    """Return a dict from each access at which a caller may stand to the ascending tuple of the words found there."""
    _need_parts(program, callers, ahead)
    found = _all_finds(program, callers, ahead)
    if found == FAILED:
        return FAILED
    return {access: tuple(sorted(found[access])) for access in found}


def spared(program, callers, ahead):
    """Return the ascending list of the accesses, not of a "wake", whose check does nothing for these callers."""
    _need_parts(program, callers, ahead)
    found = _all_finds(program, callers, ahead)
    if found == FAILED:
        return FAILED
    return [
        access for access in checked_accesses(program)
        if access not in found or not any([word in found[access] for word in NEEDING])
    ]


def find_schedule(program, callers, ahead, body, place, word):
    """Return a schedule with the fewest moves after which a caller finds the word at the access, or None."""
    _need_parts(program, callers, ahead)
    need_access(program, body, place)
    if word not in WORDS:
        raise NoState("this is no word for what is found")
    threads = Threads(program, callers, [])
    return _schedule_to(threads, ahead, lambda state: (body, place, word) in threads.all_found(state))


def cycle_schedule(program, callers, ahead):
    """Return a schedule with the fewest moves to a state with a cycle, or None."""
    _need_parts(program, callers, ahead)
    threads = Threads(program, callers, [])
    return _schedule_to(threads, ahead, lambda state: threads.cycle(state) != [])


def half(program, callers, ahead, unchecked):
    """Return ("half", schedule) with the fewest moves, ("never", states) or "failed"."""
    _need_parts(program, callers, ahead)
    need_unchecked(program, unchecked)
    search = _halved(program, callers, ahead, unchecked)
    if search is None:
        return FAILED
    if search.goal is not None:
        return "half", search.steps_to(search.goal)
    return "never", {state: search.least[state] for state in search.least}


def shows_no_half(program, callers, ahead, unchecked, thing):
    """Tell whether thing is the dict of all states of callers among which none is half."""
    _need_parts(program, callers, ahead)
    need_unchecked(program, unchecked)
    search = _halved(program, callers, ahead, unchecked)
    return search is not None and search.goal is None and is_same(thing, search.least)


def guard(program, callers, accesses, prices):
    """Return (price, units, bars) of the cheapest units that, accessed ahead, spare the accesses and bar cycles."""
    need_program(program)
    need_callers(program, callers)
    need_unchecked(program, accesses)
    need_prices(program, prices)
    threads = Threads(program, callers, [])
    bars = {}
    for price, units in priced_tuples(prices):
        first = threads.first(list(units))
        if first == FAILED:
            bars[units] = None
        else:
            bar = _bar(threads, first, accesses)
            if bar is None:
                return price, units, bars
            bars[units] = bar
    return None, None, bars


def _need_parts(program, callers, ahead):
    need_program(program)
    need_callers(program, callers)
    need_order(program, ahead)


def _bar(threads, first, accesses):
    """Return ("found", schedule) or ("cycle", schedule) for what bars the first state, None if nothing does."""
    search = spread_evenly(first, threads.moves, lambda state: threads.is_needing(state, accesses))
    if search.goal is not None:
        return "found", search.steps_to(search.goal)
    # The states stand in the order of their numbers of moves.
    for state in search.least:
        if threads.cycle(state) != []:
            return "cycle", search.steps_to(state)
    return None


def _schedule_to(threads, ahead, is_goal):
    """Return a schedule with the fewest moves to a goal, None if there is none, "failed" if an access ahead fails."""
    first = threads.first(ahead)
    if first == FAILED:
        return FAILED
    search = spread_evenly(first, threads.moves, is_goal)
    return None if search.goal is None else search.steps_to(search.goal)


def _halved(program, callers, ahead, unchecked):
    """Return the Search of all states up to a half access, None if an access ahead fails."""
    threads = Threads(program, callers, unchecked)
    first = threads.first(ahead)
    if first == FAILED:
        return None
    return spread_evenly(first, threads.moves, lambda state: threads.is_needing(state, unchecked))


def _all_finds(program, callers, ahead):
    """Return a dict from each access to a dict of the words found there, or "failed"."""
    threads = Threads(program, callers, [])
    first = threads.first(ahead)
    if first == FAILED:
        return FAILED
    search = spread_evenly(first, threads.moves, lambda state: False)
    found = {}
    for state in search.least:
        for body, place, word in threads.all_found(state):
            found.setdefault((body, place), {})[word] = True
    return found
