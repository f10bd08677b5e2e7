"""Kinds and limits of plain values, as the arguments of all modules share them."""

MOST_NUMBER = 65535
# How deep tuples are nested in a key at most.
DEEPEST = 8


def is_integer(thing):
    """Tell whether thing is an integer; True and False are none."""
    return isinstance(thing, int) and not isinstance(thing, bool)


def is_within(thing, low, high):
    """Tell whether thing is an integer from low to high."""
    return is_integer(thing) and low <= thing <= high


def is_number(thing):
    """Tell whether thing is a number that fields, slots and inputs may hold."""
    return is_within(thing, 0, MOST_NUMBER)


def is_index(thing, many):
    """Tell whether thing is the number of one of so many things, counted from 0."""
    return is_within(thing, 0, many - 1)


def is_tuple(thing, size):
    """Tell whether thing is a tuple with so many members."""
    return isinstance(thing, tuple) and len(thing) == size


def are_different(things):
    """Tell whether no two members are equal; they are integers, strings and tuples of such."""
    return len(set(things)) == len(things)


def is_same(thing, value):
    """Tell whether thing is equal to a value without booleans, and has no booleans itself."""
    return thing == value and not _has_boolean(thing)


def _has_boolean(thing):
    # True equals 1, also as a key and deep in one, so equal things may still differ in this.
    if isinstance(thing, dict):
        return any([_has_boolean(key) or _has_boolean(thing[key]) for key in thing])
    if isinstance(thing, (tuple, list)):
        return any([_has_boolean(member) for member in thing])
    return isinstance(thing, bool)


def are_members(thing, members):
    """Tell whether thing is a list of just these members, keys of a dict, each once, in any order."""
    if not (isinstance(thing, list) and len(thing) == len(members)):
        return False
    # What is no key might not even be looked for among keys.
    if not all([_is_key(one, DEEPEST) for one in thing]):
        return False
    return all([one in members for one in thing]) and are_different(thing)


def _is_key(thing, deep):
    """Tell whether thing is built of integers, strings and None, by tuples that are nested at most so deep."""
    if isinstance(thing, tuple):
        return deep > 0 and all([_is_key(member, deep - 1) for member in thing])
    return thing is None or isinstance(thing, str) or is_integer(thing)
