"""Two executions side by side, one with a plan and the run, and the pairs that they come to while they are alike."""

from firstwake.plain import Execution, execution_at

# What is come to in place of a pair: executions that are not alike, already or with one input more.
NOTICED = "noticed"
LATER = "noticed with one input more"


class Sides:
    """The two executions of a program, one of them with a plan."""

    def __init__(self, program, plan):
        self.planned = Execution(program, plan)
        self.plain = Execution(program, ([], [], []))

    def begun(self, ahead):
        """Return what the two come to by the accesses ahead, in one of them, and the call of function 0."""
        both = self._fresh()
        if both.one.access_all(ahead):
            both.one.begin(0)
        else:
            both.one.fail()
        both.other.begin(0)
        return both.following()

    def idle(self, ahead):
        """Return the pair after the accesses ahead, before any call; None if one of them fails."""
        both = self._fresh()
        return both.following() if both.one.access_all(ahead) else None

    def called(self, pair, function):
        """Return what the two come to by a call of the function when no call is under way."""
        both = self.at(pair)
        both.one.begin(function)
        both.other.begin(function)
        return both.following()

    def _fresh(self):
        asleep = ("asleep",) * len(self.plain.program[0])
        return self.at(((), (asleep, (), ()), (asleep, (), ())))

    def at(self, pair):
        """Return Both, standing where the pair tells."""
        stack, one, other = pair
        return Both(_come(self.planned, stack, one), _come(self.plain, stack, other), one[2], other[2])

    def advanced(self, pair, besides):
        """Return the list of what follows the pair at an instruction, each with the input that is taken or None.

        Before the instruction the units besides are accessed, too, in the execution with the plan alone.
        """
        followings = []
        for number in (0, 1):
            both = self.at(pair)
            both.advance([number], besides)
            following = both.following()
            # The two have been at one instruction, so an input that makes no pair any more was not needed for that.
            is_taken = both.other.taken > 0 and following != NOTICED
            if following == LATER:
                return [(NOTICED, number)]
            followings.append((following, number if is_taken else None))
            if not (is_taken and both.is_branching):
                return followings
        return followings


def _come(model, stack, side):
    """Return an execution like the model that stands at the stack, its fields last written as the side's words tell."""
    statuses, last, _ = side
    return execution_at(model, stack, statuses, {(unit, field): word for unit, field, word in last})


class Both:
    """An execution with a plan and the run, and what initializers have read in one of them alone."""

    def __init__(self, one, other, one_own, other_own):
        self.one = one
        self.other = other
        self.one_before = {(unit, place): word for unit, place, word in one_own}
        self.other_before = {(unit, place): word for unit, place, word in other_own}
        self.is_branching = False

    def advance(self, inputs, besides):
        """Execute the next instruction of each that has not ended; before the plan's the units besides are accessed."""
        self.is_branching = self.other.end is None and self.other.instruction()[0] == "branch"
        if self.one.end is None:
            self.one.advance(inputs, besides)
        if self.other.end is None:
            self.other.advance(inputs, [])

    def following(self):
        """Return the pair that the two have come to, with the stack () at the ends of both; or NOTICED, or LATER."""
        if not self._are_alike():
            return NOTICED
        if self.one.stack() != self.other.stack() or self.one.end != self.other.end:
            # They go on at different places, so they stay alike only if no further instruction takes place.
            self.advance([], [])
            if self.one.end != self.other.end or not self._are_alike():
                return NOTICED
            if self.one.end == "waits":
                return LATER
        return self._pair()

    def _are_alike(self):
        """Tell whether both have gone the same way and seen the same since they stood at the same instruction."""
        if self.one.path != self.other.path or _words(self.one.seen) != _words(self.other.seen):
            return False
        one, other = self._owns()
        return all([one[spot] == other[spot] for spot in one if spot in other])

    def _owns(self):
        """Return two dicts from each (unit, place) of a read that took place to the word of what it saw."""
        return _joined(self.one_before, self.one.own), _joined(self.other_before, self.other.own)

    def _pair(self):
        one_own, other_own = self._owns()
        one = [(spot, one_own[spot]) for spot in sorted(one_own) if spot not in other_own]
        other = [(spot, other_own[spot]) for spot in sorted(other_own) if spot not in one_own]
        return self.one.stack(), self._side(self.one, one), self._side(self.other, other)

    def _side(self, execution, own):
        last = tuple([(*field, _word(execution.last[field])) for field in sorted(execution.last)])
        return tuple(execution.statuses), last, tuple([(*spot, self._aged(spot, word)) for spot, word in own])

    def _aged(self, spot, word):
        """Return the word of a read, which is "old" if a function has just written over what it saw."""
        if word != "function" or not self.other.path:
            return word
        unit, place = spot
        _, _, *read = self.other.program[0][unit][2][place]
        function, at = self.other.path[0]
        written = self.other.program[1][function][1][at]
        return "old" if written[0] == "write" and [written[1], written[2]] == read else word


def _joined(before, own):
    """Return the words of the reads before and of those that the execution has just recorded."""
    words = {spot: _word(own[spot]) for spot in own}
    return {**before, **words}


def _words(names):
    return [_word(name) for name in names]


def _word(name):
    """Return the word for the name of a write: its initializer and place, or "function"; words stay as they are."""
    if name is None or name == "function" or len(name) == 2:
        return name
    body, place, _ = name
    return (body[1], place) if body[0] == "unit" else "function"
