"""Threads in a program: their states, their moves, and what they stand at."""

from firstwake.plain import Execution
from firstwake.programs import accessed_unit
from firstwake.values import is_integer, is_tuple, is_within

FAILED = "failed"
# What is found where a check does something, or would.
NEEDING = ("asleep", "broken", "other")


class Threads:
    """The threads of callers, with accesses that are not checked."""

    def __init__(self, program, callers, unchecked):
        self.program = program
        self.callers = callers
        self.codes = {("unit", number): unit[2] for number, unit in enumerate(program[0])}
        self.codes.update({("function", number): function[1] for number, function in enumerate(program[1])})
        self.held = ["held " + str(thread) for thread in range(len(callers))]
        self.accesses = _accesses(program, self.codes)
        # The unit that is needed where a frame stands: there is no further move before it is waking or awake.
        self.needs = {frame: unit for frame, unit in self.accesses.items() if frame not in unchecked}
        for number, unit in enumerate(program[0]):
            if unit[0] is not None:
                self.needs[(("unit", number), -1)] = unit[0]
        for number, function in enumerate(program[1]):
            self.needs[(("call", number), 0)] = function[0]
        for thread, caller in enumerate(callers):
            if caller != "open":
                self.needs[(("start", thread), 0)] = program[1][caller][0]

    def first(self, ahead):
        """Return the state before all moves, "failed" if an access of the units ahead fails."""
        execution = Execution(self.program, ([], [], []))
        if not execution.access_all(ahead):
            return FAILED
        words = ["open" if caller == "open" else "start" for caller in self.callers]
        return tuple(execution.statuses), tuple([(((word, thread), 0),) for thread, word in enumerate(words)])

    def moves(self, state):
        """Return the ascending list of (move, state after it)."""
        many = len(self.callers)
        return [((thread, bit), after) for thread in range(many) for bit, after in self.thread_moves(state, thread)]

    def thread_moves(self, state, thread):
        """Return the ascending list of (the second number of a move of the thread, state after it)."""
        statuses, threads = state
        unit = self.needed(state, thread)
        if unit is not None and statuses[unit] == "asleep":
            parent = self.program[0][unit][0]
            woken = (*threads[thread], (("unit", unit), 0 if parent is None else -1))
            return [(0, _with(_put(statuses, unit, self.held[thread]), threads, thread, woken))]
        if unit is not None and statuses[unit] == "broken":
            return [(0, self._given_up(state, thread))]
        if self.is_over(state, thread) or self.blocked_by(state, thread) is not None:
            return []
        return self._going_on(state, thread)

    def needed(self, state, thread):
        """Return the unit whose check stands before the thread's next step, None if there is none."""
        frames = state[1][thread]
        return self.needs.get(frames[-1]) if frames else None

    def blocked_by(self, state, thread):
        """Return the thread that holds the unit which this thread accesses, None if it is not blocked."""
        unit = self.needed(state, thread)
        if unit is None or state[0][unit] not in self.held:
            return None
        holder = self.held.index(state[0][unit])
        return None if holder == thread else holder

    def is_over(self, state, thread):
        """Tell whether the thread is done or has failed."""
        frames = state[1][thread]
        return frames == () or frames[0][0][0] == FAILED

    def found(self, state, thread):
        """Return (body, place, word) for the access that the thread stands at, None if it stands at none."""
        statuses, threads = state
        if not threads[thread] or threads[thread][-1] not in self.accesses:
            return None
        body, place = threads[thread][-1]
        status = statuses[self.accesses[(body, place)]]
        if status in self.held:
            status = "self" if status == self.held[thread] else "other"
        return body, place, status

    def all_found(self, state):
        """Return the list of (body, place, word) for the accesses that threads stand at."""
        found = [self.found(state, thread) for thread in range(len(self.callers))]
        return [one for one in found if one is not None]

    def is_needing(self, state, accesses):
        """Tell whether a thread stands at one of the accesses and finds there what a check is for."""
        found = self.all_found(state)
        return any([word in NEEDING and (body, place) in accesses for body, place, word in found])

    def cycle(self, state):
        """Return the ascending list of the threads of a cycle in which each is blocked by the next one, or []."""
        for thread in range(len(self.callers)):
            blocked = [thread]
            other = self.blocked_by(state, thread)
            while other is not None and other not in blocked:
                blocked.append(other)
                other = self.blocked_by(state, other)
            if other == thread:
                return sorted(blocked)
        return []

    def _given_up(self, state, thread):
        """Return the state after something fails where the thread stands."""
        statuses, threads = state
        frames = threads[thread]
        while frames[-1][0][0] == "unit":
            statuses = _put(statuses, frames[-1][0][1], "broken")
            frames = frames[:-1]
        body, place = frames[-1]
        if self._word(body, place) == "wake":
            return _with(statuses, threads, thread, (*frames[:-1], (body, self.codes[body][place][2])))
        if self.callers[thread] == "open":
            return _with(statuses, threads, thread, frames[:1])
        return _with(statuses, threads, thread, (((FAILED, thread), 0),))

    def _going_on(self, state, thread):
        """Return the moves of a thread whose next step is not kept back by an access."""
        statuses, threads = state
        below, (body, place) = threads[thread][:-1], threads[thread][-1]
        if body[0] == "open":
            calls = [(number, (("call", number), 0)) for number in range(len(self.program[1]))]
            return [(number, _with(statuses, threads, thread, ((body, place), frame))) for number, frame in calls]
        if body[0] in ("start", "call"):
            function = self.callers[thread] if body[0] == "start" else body[1]
            return [(0, _with(statuses, threads, thread, (*below, (body, place), (("function", function), 0))))]
        if place == len(self.codes[body]):
            return [(0, self._ended(state, thread))]
        word = self._word(body, place)
        if word == "fail":
            return [(0, self._given_up(state, thread))]
        if word == "call":
            called = ("function", self.codes[body][place][1])
            return [(0, _with(statuses, threads, thread, (*below, (body, place), (called, 0))))]
        after = _with(statuses, threads, thread, (*below, (body, place + 1)))
        if word == "branch":
            return [(0, after), (1, _with(statuses, threads, thread, (*below, (body, self.codes[body][place][1]))))]
        return [(0, after), (1, after)] if word == "input" else [(0, after)]

    def _ended(self, state, thread):
        """Return the state after the last frame of the thread, which stands at its end, is gone."""
        statuses, threads = state
        frames = threads[thread]
        below = frames[:-1]
        if frames[-1][0][0] == "unit":
            return _with(_put(statuses, frames[-1][0][1], "awake"), threads, thread, below)
        body, place = below[-1]
        if body[0] == "start":
            return _with(statuses, threads, thread, ())
        if body[0] == "call":
            return _with(statuses, threads, thread, below[:-1])
        return _with(statuses, threads, thread, (*below[:-1], (body, place + 1)))

    def _word(self, body, place):
        """Return the word of the instruction at the place, None if there is none."""
        return self.codes[body][place][0] if body in self.codes and 0 <= place < len(self.codes[body]) else None

    def is_state(self, thing):
        """Tell whether thing has the form of a state of these threads, whether moves lead to it or not."""
        if not is_tuple(thing, 2):
            return False
        statuses, threads = thing
        words = ["asleep", "awake", "broken"] + self.held
        if not (is_tuple(statuses, len(self.program[0])) and all([status in words for status in statuses])):
            return False
        if not is_tuple(threads, len(self.callers)):
            return False
        if not all([self._is_thread(frames, thread) for thread, frames in enumerate(threads)]):
            return False
        return all([self._is_held_rightly(threads, unit, status) for unit, status in enumerate(statuses)])

    def _is_thread(self, thing, thread):
        """Tell whether thing is a tuple of frames that the thread may have, each making the one behind it."""
        if not (isinstance(thing, tuple) and all([_has_form_of_frame(frame) for frame in thing])):
            return False
        is_open = self.callers[thread] == "open"
        if thing == () or thing == (((FAILED, thread), 0),):
            return not is_open
        if thing[0] != (("open" if is_open else "start", thread), 0):
            return False
        return all([self._may_follow(thing[at], thing[at + 1], thread) for at in range(len(thing) - 1)])

    def _may_follow(self, below, frame, thread):
        """Tell whether the frame below stands where it makes one of such a body, and this one is at a place of it."""
        body, place = frame
        if body[0] == "unit":
            if self._unit_at(below) != body[1]:
                return False
            return is_within(place, 0 if self.program[0][body[1]][0] is None else -1, len(self.codes[body]))
        if body[0] == "call":
            return below[0][0] == "open" and is_within(body[1], 0, len(self.program[1]) - 1) and place == 0
        if body not in self.codes or not is_within(place, 0, len(self.codes[body])):
            return False
        if below[0][0] == "start":
            return body[1] == self.callers[thread]
        if below[0][0] == "call":
            return body[1] == below[0][1]
        return self._word(below[0], below[1]) == "call" and self.codes[below[0]][below[1]][1] == body[1]

    def _unit_at(self, frame):
        """Return the unit that is accessed where the frame stands, also without a check; None if there is none."""
        return self.accesses[frame] if frame in self.accesses else self.needs.get(frame)

    def _is_held_rightly(self, threads, unit, status):
        """Tell whether the thread that holds the unit has a frame of its initializer, and no other one has."""
        bodies = [(frame[0], thread) for thread, frames in enumerate(threads) for frame in frames]
        holders = [self.held[thread] for body, thread in bodies if body == ("unit", unit)]
        return holders == ([status] if status in self.held else [])


def _accesses(program, codes):
    """Return a dict from each (body, place) of an access to its unit."""
    found = {}
    for body, code in codes.items():
        for place, instruction in enumerate(code):
            unit = accessed_unit(program, instruction)
            if unit is not None:
                found[(body, place)] = unit
    return found


def _has_form_of_frame(thing):
    """Tell whether thing is built like (body, place), with integers for its two numbers."""
    if not (is_tuple(thing, 2) and is_tuple(thing[0], 2) and is_integer(thing[1])):
        return False
    return isinstance(thing[0][0], str) and is_integer(thing[0][1])


def _put(statuses, unit, status):
    return (*statuses[:unit], status, *statuses[unit + 1:])


def _with(statuses, threads, thread, frames):
    """Return the state with these statuses and other frames of one thread."""
    return statuses, (*threads[:thread], frames, *threads[thread + 1:])
