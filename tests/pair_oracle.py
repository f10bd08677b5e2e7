"""Pairs of executions by the words of the document: both are executed from their beginning, then compared.

Nothing is carried from one instruction to the next but what the oracle of executions records: the words of a pair
are worked out anew, for each moment, from the names of the writes and the path so far.
"""

from tests.oracle import Oracle


class Watched(Oracle):
    """An execution that remembers, for each instruction that it comes to, how things are then."""

    def __init__(self, *parts, **named):
        super().__init__(*parts, **named)
        self.moments = []

    def come(self, frame, unit):
        if frame.body[0] == "function":
            stack = tuple((below.body[1], below.place) for below in self.frames)
            names = {field: held[1] for field, held in self.fields.items() if field != "all"}
            self.moments.append({
                "stack": stack, "statuses": tuple(self.statuses), "last": names, "own": dict(self.own),
                "seen": list(self.seen), "taken": self.taken,
            })
        super().come(frame, unit)


def watched(program, inputs, plan=((), (), ()), woken=None):
    return Watched(program, inputs, plan, woken).execute()


def agree(one, other):
    return all(other[spot] == name for spot, name in one.items() if spot in other)


def are_alike(one, other):
    """Tell whether two executions at their ends are alike."""
    return (one.end, one.path, one.seen) == (other.end, other.path, other.seen) and agree(one.own, other.own)


def last_of_functions(program, path):
    """Return a dict from each field to the name of the last write of it by a function on the path."""
    counts, found = {}, {}
    for function, place in path:
        instruction = program[1][function][1][place]
        if instruction[0] == "write":
            spot = (("function", function), place)
            found[instruction[1:3]] = (*spot, counts.get(spot, 0))
            counts[spot] = counts.get(spot, 0) + 1
    return found


def word(name):
    if name is None:
        return None
    return (name[0][1], name[1]) if name[0][0] == "unit" else "function"


def side(program, moment, other, path):
    last = tuple(sorted(
        ((unit, field, word(name)) for (unit, field), name in moment["last"].items()), key=lambda one: one[:2]))
    by_functions = last_of_functions(program, path)
    own = []
    for unit, place in sorted(set(moment["own"]) - set(other["own"])):
        name = moment["own"][unit, place]
        told = word(name)
        if told == "function" and by_functions[program[0][unit][2][place][2:4]] != name:
            told = "old"
        own.append((unit, place, told))
    return moment["statuses"], last, tuple(own)


def pairs_of(program, one, other):
    """Yield (pair, number of inputs) for all pairs that two executions come to, as long as they are alike."""
    for at, (mine, its) in enumerate(zip(one.moments, other.moments)):
        if one.path[:at] != other.path[:at] or mine["seen"] != its["seen"] or not agree(mine["own"], its["own"]):
            return
        if mine["stack"] == its["stack"]:
            path = one.path[:at]
            yield (mine["stack"], side(program, mine, its, path), side(program, its, mine, path)), its["taken"]


def all_pairs(program, plan, most):
    """Return (fewest inputs of executions that are not alike or None, a dict from each pair to its fewest inputs).

    All inputs of 0 and 1 are tried that one of the two takes, up to so many. With a number for the fewest the dict
    has only what was found up to it.
    """
    found, level = {}, [()]
    for many in range(most + 1):
        following, is_noticed = [], False
        for inputs in level:
            one, other = watched(program, inputs, plan), watched(program, inputs)
            for pair, taken in pairs_of(program, one, other):
                found[pair] = min(taken, found.get(pair, taken))
            is_noticed = is_noticed or not are_alike(one, other)
            if "waits" in (one.end, other.end):
                following.extend([inputs + (0,), inputs + (1,)])
        if is_noticed:
            return many, found
        level = following
    return None, found


def is_closed(found, most):
    """Tell whether no more pairs can be found with more inputs: none needs the greatest number tried."""
    return most not in found.values()
