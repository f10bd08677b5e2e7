"""Machines: threads that are executed move by move, with their numbers, and ways back."""

from firstwake.errors import NoMove, NoNumber, NoRoom
from firstwake.moves import FAILED, Threads
from firstwake.needs import need_mark, need_number, need_order, need_starts
from firstwake.plain import Execution, compute
from firstwake.programs import MOST_INPUTS, need_program, need_unit
from firstwake.values import is_index


class Machine:
    """The threads of starts after the units of ahead, executed move by move."""

    def __init__(self, program, starts, ahead):
        need_program(program)
        need_starts(program, starts)
        need_order(program, ahead)
        self._program = program
        self._threads = Threads(program, starts, [])
        first = self._threads.first(ahead)
        if first == FAILED:
            raise NoMove("an access ahead fails")
        self._now = Moment(first, _numbers_after(program, ahead), len(starts))
        self._marks = []

    def feed(self, thread, number):
        """Give the thread an input more."""
        self._need_thread(thread)
        need_number(number)
        if len(self._now.inputs[thread]) == MOST_INPUTS:
            raise NoRoom("the thread has all the inputs that it may have")
        self._now.inputs[thread].append(number)

    def step(self, thread):
        """Do the next move of the thread."""
        self._need_thread(thread)
        now = self._now
        moves = self._threads.thread_moves(now.reached, thread)
        if not moves or self._lacks_input(thread):
            raise NoMove("the thread has no move that it can do")
        number = now.next_input(thread) if len(moves) > 1 else 0
        bit, after = moves[0 if number == 0 else 1]
        now.moved.append((thread, bit))
        self._compute(thread, number, after)
        now.note_waking(thread, after)
        now.reached = after

    def output(self, thread):
        """Return the list of what the thread output."""
        self._need_thread(thread)
        return list(self._now.shown[thread])

    def stands(self, thread):
        """Return "moves", "waits", "done", "failed" or ("blocked", unit)."""
        self._need_thread(thread)
        state = self._now.reached
        if self._threads.is_over(state, thread):
            return FAILED if state[1][thread] else "done"
        if self._threads.blocked_by(state, thread) is not None:
            return "blocked", self._threads.needed(state, thread)
        return "waits" if self._lacks_input(thread) else "moves"

    def state(self):
        """Return the state that the threads are in."""
        return self._now.reached

    def schedule(self):
        """Return the list of all moves from the beginning."""
        return list(self._now.moved)

    def why(self, unit):
        """Return the list of the accesses that led to the waking of the unit by a thread, the outermost first."""
        need_unit(self._program, unit)
        return list(self._now.wakings.get(unit, []))

    def cycle(self):
        """Return the ascending list of the threads of a cycle in which each is blocked by the next one, or []."""
        return self._threads.cycle(self._now.reached)

    def mark(self):
        """Make a mark and return its number."""
        self._marks.append(self._now.copied())
        return len(self._marks) - 1

    def back(self, number):
        """Return to what was there when the mark was made."""
        need_mark(number, len(self._marks))
        self._now = self._marks[number].copied()
        self._marks = self._marks[:number + 1]

    def _need_thread(self, thread):
        if not is_index(thread, len(self._now.inputs)):
            raise NoNumber("this is no thread of the machine")

    def _lacks_input(self, thread):
        """Tell whether the thread needs an input that it has not."""
        now = self._now
        # Only at a "branch" or an "input" a thread has two moves.
        has_two = len(self._threads.thread_moves(now.reached, thread)) == 2
        return has_two and now.taken[thread] == len(now.inputs[thread])

    def _compute(self, thread, number, after):
        """Do what the thread's move to the state after it does with slots, fields, inputs and outputs."""
        before = self._now.reached[1][thread]
        frames = after[1][thread]
        body, place = before[-1]
        slots = self._now.slots[thread]
        # Where an instruction takes place, its frame stays and goes on; calls and ends make frames, or take them off.
        if len(frames) == len(before) and body[0] in ("unit", "function") and place >= 0:
            self._now.take_place(thread, self._threads.codes[body][place], slots[-1], number)
        del slots[len(frames):]
        while len(slots) < len(frames):
            slots.append([0, 0, 0])


def _numbers_after(program, ahead):
    """Return a dict from the fields that have been written by the accesses ahead to their numbers."""
    execution = Execution(program, ([], [], []))
    execution.access_all(ahead)
    return execution.numbers


class Moment:
    """How things are in a machine at a moment."""

    def __init__(self, state, fields, many):
        self.reached = state
        self.fields = fields
        self.moved = []
        self.wakings = {}
        self.inputs = [[] for _ in range(many)]
        self.taken = [0] * many
        self.shown = [[] for _ in range(many)]
        self.slots = [[[0, 0, 0]] for _ in range(many)]

    def copied(self):
        """Return another moment that is the same, and stays so."""
        other = Moment(self.reached, {field: self.fields[field] for field in self.fields}, 0)
        other.moved = list(self.moved)
        other.wakings = {unit: self.wakings[unit] for unit in self.wakings}
        other.inputs = [list(numbers) for numbers in self.inputs]
        other.taken = list(self.taken)
        other.shown = [list(numbers) for numbers in self.shown]
        other.slots = [[list(slots) for slots in frames] for frames in self.slots]
        return other

    def next_input(self, thread):
        """Take the next input of the thread."""
        self.taken[thread] += 1
        return self.inputs[thread][self.taken[thread] - 1]

    def note_waking(self, thread, after):
        """Remember why the thread's move to the state after it wakes a unit, if it does."""
        before = self.reached[1][thread]
        frames = after[1][thread]
        if len(frames) > len(before) and frames[-1][0][0] == "unit":
            # The accesses of initializers stand behind the last frame that is of none.
            outermost = max([at for at, frame in enumerate(before) if frame[0][0] != "unit"])
            self.wakings[frames[-1][0][1]] = list(before[outermost:])

    def take_place(self, thread, instruction, slots, number):
        """Do what the instruction does when it takes place; number is the input if it takes one."""
        word = instruction[0]
        if word == "input":
            slots[instruction[1]] = number
        elif word == "show":
            self.shown[thread].append(slots[instruction[1]])
        else:
            compute(instruction, slots, self.fields)
