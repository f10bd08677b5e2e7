"""Arguments that several modules share, and the errors that are raised for what is none of them."""

from firstwake.errors import NoAccess, NoInputs, NoNumber, NoOrder, NoPlan, NoPrices, NoStarts, NoState
from firstwake.programs import are_unchecked, is_access, is_inputs, is_order, is_plan
from firstwake.values import is_index, is_number, is_tuple

MOST_THREADS = 3
STATUSES = ("asleep", "waking", "awake", "broken")


def need_inputs(inputs):
    """Raise NoInputs if inputs are none."""
    if not is_inputs(inputs):
        raise NoInputs("these are no inputs")


def need_plan(program, plan):
    """Raise NoPlan if plan is none of the program."""
    if not is_plan(program, plan):
        raise NoPlan("this is no plan of the program")


def need_access(program, body, place):
    """Raise NoAccess if there is no access at the place of the body."""
    if not is_access(program, body, place):
        raise NoAccess("this is no access of the program")


def need_status(status):
    """Raise NoState if status is none."""
    if status not in STATUSES:
        raise NoState("this is no status")


def need_number(thing):
    """Raise NoNumber if thing is no number that may be an input."""
    if not is_number(thing):
        raise NoNumber("this is no number")


def need_mark(thing, many):
    """Raise NoNumber if thing is not the number of one of so many marks."""
    if not is_index(thing, many):
        raise NoNumber("this is no mark that there is")


def need_order(program, ahead):
    """Raise NoOrder if ahead is no list of different units of the program."""
    if not is_order(program, ahead):
        raise NoOrder("this is no list of different units of the program")


def need_unchecked(program, unchecked):
    """Raise NoAccess if unchecked is no list of different accesses, none of them a "wake"."""
    if not are_unchecked(program, unchecked):
        raise NoAccess("this is no list of different accesses that may be unchecked")


def need_starts(program, starts):
    """Raise NoStarts if starts are no tuple of one to three numbers of functions."""
    many = len(program[1])
    if not (_has_threads(starts) and all([is_index(member, many) for member in starts])):
        raise NoStarts("these are no starts of the program")


def need_callers(program, callers):
    """Raise NoStarts if callers are no tuple of one to three numbers of functions or "open"."""
    many = len(program[1])
    if not (_has_threads(callers) and all([member == "open" or is_index(member, many) for member in callers])):
        raise NoStarts("these are no callers of the program")


def need_prices(program, prices):
    """Raise NoPrices if prices are no tuple with a number for each unit."""
    if not (is_tuple(prices, len(program[0])) and all([is_number(price) for price in prices])):
        raise NoPrices("these are no prices for the units of the program")


def _has_threads(thing):
    return isinstance(thing, tuple) and 1 <= len(thing) <= MOST_THREADS
