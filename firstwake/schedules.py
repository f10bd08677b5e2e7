"""Schedules: whether threads can wait for one another for ever, and the cheapest units ahead against it."""

from itertools import combinations

from firstwake.moves import FAILED, Threads
from firstwake.needs import need_order, need_prices, need_starts
from firstwake.programs import need_program
from firstwake.searches import spread_evenly
from firstwake.values import is_same


def deadlock(program, starts, ahead):
    """Return ("deadlock", schedule) with the fewest moves, ("never", states) or "failed"."""
    need_program(program)
    need_starts(program, starts)
    need_order(program, ahead)
    search = _searched(program, starts, ahead)
    if search is None:
        return FAILED
    if search.goal is not None:
        return "deadlock", search.steps_to(search.goal)
    return "never", {state: search.least[state] for state in search.least}


def shows_never(program, starts, ahead, thing):
    """Tell whether thing is the dict of all states of threads among which there is no deadlock."""
    need_program(program)
    need_starts(program, starts)
    need_order(program, ahead)
    search = _searched(program, starts, ahead)
    return search is not None and search.goal is None and is_same(thing, search.least)


def cheapest(program, starts, prices):
    """Return (price, units, bars) of the cheapest units that, accessed ahead, leave no deadlock."""
    need_program(program)
    need_starts(program, starts)
    need_prices(program, prices)
    bars = {}
    for price, units in priced_tuples(prices):
        search = _searched(program, starts, list(units))
        if search is not None and search.goal is None:
            return price, units, bars
        bars[units] = None if search is None else search.steps_to(search.goal)
    return None, None, bars


def priced_tuples(prices):
    """Return the list of (price, units) for all ascending tuples of units, in their order by price, then ascending."""
    many = len(prices)
    tuples = [units for size in range(many + 1) for units in combinations(range(many), size)]
    return sorted([(sum([prices[unit] for unit in units]), units) for units in tuples])


def _searched(program, starts, ahead):
    """Return the Search of all states up to a deadlock, None if an access of the units ahead fails."""
    threads = Threads(program, starts, [])
    first = threads.first(ahead)
    if first == FAILED:
        return None

    def is_deadlock(state):
        living = [thread for thread in range(len(starts)) if not threads.is_over(state, thread)]
        return living != [] and all([threads.blocked_by(state, thread) is not None for thread in living])

    return spread_evenly(first, threads.moves, is_deadlock)
