"""Threads that execute functions of a program side by side: their first state, and the moves from state to state."""

from firstwake.errors import NoMove, NoState
from firstwake.moves import FAILED, Threads
from firstwake.needs import need_order, need_starts
from firstwake.programs import need_program
from firstwake.values import is_integer, is_tuple


def first_state(program, starts, ahead):
    """Return the state before all moves, "failed" if an access of the units ahead fails."""
    need_program(program)
    need_starts(program, starts)
    need_order(program, ahead)
    return Threads(program, starts, []).first(ahead)


def steps(program, starts, state):
    """Return the ascending list of (move, state after it)."""
    need_program(program)
    need_starts(program, starts)
    threads = Threads(program, starts, [])
    if not threads.is_state(state):
        raise NoState("these threads have no such state")
    return threads.moves(state)


def state_after(program, starts, ahead, schedule):
    """Return the state that the schedule leads to."""
    need_program(program)
    need_starts(program, starts)
    need_order(program, ahead)
    threads = Threads(program, starts, [])
    state = threads.first(ahead)
    if state == FAILED or not _is_list_of_moves(schedule):
        raise NoMove("there is no such schedule")
    for thread, bit in schedule:
        followings = [after for move, after in threads.moves(state) if move == (thread, bit)]
        if not followings:
            raise NoMove("there is no such move")
        state = followings[0]
    return state


def _is_list_of_moves(thing):
    # True equals 1 within tuples, too: without this test it would pass for a thread or a bit.
    if not isinstance(thing, list):
        return False
    return all([is_tuple(move, 2) and is_integer(move[0]) and is_integer(move[1]) for move in thing])
