"""Callers: threads that make one call, or any number of calls; their first state, and the moves from state to state."""

from firstwake.errors import NoState
from firstwake.moves import Threads
from firstwake.needs import need_callers, need_order, need_unchecked
from firstwake.programs import need_program


def caller_state(program, callers, ahead):
    """Return the state before all moves, "failed" if an access of the units ahead fails."""
    need_program(program)
    need_callers(program, callers)
    need_order(program, ahead)
    return Threads(program, callers, []).first(ahead)


def caller_steps(program, callers, unchecked, state):
    """Return the ascending list of (move, state after it), with these accesses unchecked."""
    need_program(program)
    need_callers(program, callers)
    need_unchecked(program, unchecked)
    threads = Threads(program, callers, unchecked)
    if not threads.is_state(state):
        raise NoState("these callers have no such state")
    return threads.moves(state)
