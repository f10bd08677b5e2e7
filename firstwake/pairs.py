"""Pairs: whether a plan can be noticed, which units are quiet, and the longest order that is not noticed."""

from itertools import permutations

from firstwake.errors import TooLong, TooMany
from firstwake.needs import need_plan
from firstwake.programs import MOST_INPUTS, need_program, need_unit
from firstwake.searches import Search, spread
from firstwake.sides import NOTICED, Sides
from firstwake.values import are_members

MOST_UNITS_IN_ORDERS = 4


def judge(program, plan):
    """Return ("noticed", inputs) with the fewest inputs that show the plan, or ("unnoticed", pairs)."""
    need_program(program)
    need_plan(program, plan)
    search = _compared(program, plan)
    if search.goal is None:
        return "unnoticed", list(search.least)
    return "noticed", _inputs_to_goal(search)


def shows_unnoticed(program, plan, thing):
    """Tell whether thing is a list of all pairs of a plan that is not noticed."""
    need_program(program)
    need_plan(program, plan)
    search = _compared(program, plan)
    return search.goal is None and are_members(thing, search.least)


def quiet(program, unit):
    """Return None if the unit is quiet, else the fewest inputs and a moment at which one more access is noticed."""
    need_program(program)
    need_unit(program, unit)
    search = _woken(program, unit)
    if search.goal is None:
        return None
    # Until the access takes place the two executions are the same.
    before = [pair for pair in search.states_to(NOTICED)[:-1] if _is_same(pair)]
    return _inputs_to_goal(search), len(before) - 1


def longest(program):
    """Return a longest list of units that, accessed ahead in this order, are not noticed."""
    need_program(program)
    if len(program[0]) > MOST_UNITS_IN_ORDERS:
        raise TooMany("there are too many units")
    for many in range(len(program[0]), 0, -1):
        for order in permutations(range(len(program[0])), many):
            if _compared(program, (list(order), [], [])).goal is None:
                return list(order)
    return []


def _inputs_to_goal(search):
    inputs = search.steps_to(NOTICED)
    if len(inputs) > MOST_INPUTS:
        raise TooLong("this takes too many inputs")
    return inputs


def _compared(program, plan):
    """Return the Search of all pairs that the execution with the plan and the run come to, until it is noticed."""
    sides = Sides(program, plan)
    first = sides.begun(plan[0])

    def follow(pair):
        return [(following, step) for following, step in sides.advanced(pair, []) if not _is_over(following)]

    search = Search()
    spread(search, [] if _is_over(first) else [first], follow, NOTICED)
    return search


def _woken(program, unit):
    """Return the Search of all pairs of runs with one access more of the unit, and before it, until it is noticed."""
    sides = Sides(program, ([], [], []))
    first = sides.begun([])

    def follow(pair):
        followings = sides.advanced(pair, [])
        if _is_same(pair) and pair[1][0][unit] == "asleep":
            followings.extend(sides.advanced(pair, [unit]))
        # Where the two have become the same again, they are so for ever.
        is_before = _is_same(pair)
        return [
            (following, step) for following, step in followings
            if not _is_over(following) and (is_before or not _is_same(following))
        ]

    search = Search()
    spread(search, [] if _is_over(first) else [first], follow, NOTICED)
    return search


def _is_over(following):
    """Tell whether two executions that are alike have ended."""
    return following != NOTICED and following[0] == ()


def _is_same(following):
    """Tell whether two executions, alike so far, do not differ in anything that may be noticed later."""
    return following != NOTICED and following[1] == following[2]
