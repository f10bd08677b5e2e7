"""Plain executions: runs with and without plans, and what is recorded of them."""

from firstwake.errors import NoNumber
from firstwake.needs import need_inputs, need_plan
from firstwake.programs import accessed_unit, need_program, need_unit
from firstwake.values import MOST_NUMBER, is_integer

TAKING_WORDS = ("input", "branch")


def run(program, inputs):
    """Return (end, output) of the run with these inputs."""
    need_program(program)
    need_inputs(inputs)
    execution = _executed(program, inputs, ([], [], []), None, 0)
    return execution.end, execution.shown


def full_run(program, inputs, plan):
    """Return (end, output, path, seen, own, order, finds) of the execution with these inputs and the plan."""
    need_program(program)
    need_inputs(inputs)
    need_plan(program, plan)
    return _executed(program, inputs, plan, None, 0).records()


def woken_run(program, inputs, unit, moment):
    """Return what full_run does, for the run in which the unit is accessed once more at the moment."""
    need_program(program)
    need_inputs(inputs)
    need_unit(program, unit)
    if not (is_integer(moment) and moment >= 0):
        raise NoNumber("this is no moment")
    return _executed(program, inputs, ([], [], []), unit, moment).records()


def _executed(program, inputs, plan, unit, moment):
    """Return the execution at its end; a unit that is not None is accessed once more at the moment."""
    execution = Execution(program, plan)
    # No unit ahead is broken when its turn comes: what breaks it before ends the execution.
    if execution.access_all(plan[0]):
        execution.begin(0)
    else:
        execution.fail()
    while execution.end is None:
        # There is one such instruction at most: each one that takes place makes the path longer.
        is_moment = unit is not None and len(execution.path) == moment
        execution.advance(inputs, [unit] if is_moment else [])
    return execution


def compute(instruction, slots, numbers):
    """Do with slots and with the fields' numbers what the instruction does; a branch, a call and a wake do nothing."""
    word = instruction[0]
    if word == "number":
        slots[instruction[1]] = instruction[2]
    elif word == "copy":
        slots[instruction[1]] = slots[instruction[2]]
    elif word == "add":
        slots[instruction[1]] = (slots[instruction[1]] + instruction[2]) % (MOST_NUMBER + 1)
    elif word == "read":
        slots[instruction[1]] = numbers.get((instruction[2], instruction[3]), 0)
    elif word == "write":
        numbers[(instruction[1], instruction[2])] = slots[instruction[3]]


def execution_at(model, stack, statuses, last):
    """Return an execution with the model's program and plan that has come to the stack; its numbers are 0."""
    execution = Execution(model.program, ([], [], []))
    execution.unchecked = model.unchecked
    execution.extra = model.extra
    execution.frames = [[function, place, [0, 0, 0]] for function, place in stack]
    execution.statuses = list(statuses)
    execution.last = last
    execution.is_begun = True
    return execution


class Execution:
    """An execution with a plan: how far it has come, and what was recorded on the way."""

    def __init__(self, program, plan):
        _, unchecked, added = plan
        self.program = program
        self.unchecked = {spot: True for spot in unchecked}
        self.extra = {}
        for function, place, unit in added:
            self.extra.setdefault((function, place), []).append(unit)
        self.statuses = ["asleep"] * len(program[0])
        self.numbers = {}
        self.last = {}
        self.counts = {}
        self.frames = []
        self.is_begun = False
        self.taken = 0
        self.end = None
        self.shown = []
        self.path = []
        self.seen = []
        self.own = {}
        self.order = []
        self.finds = []
        self.early = []

    def records(self):
        """Return what full_run returns."""
        return self.end, self.shown, self.path, self.seen, self.own, self.order, self.finds

    def copied(self):
        """Return another execution that is the same, and stays so."""
        other = execution_at(self, self.stack(), self.statuses, {field: self.last[field] for field in self.last})
        for at, frame in enumerate(self.frames):
            other.frames[at][2] = list(frame[2])
        other.numbers = {field: self.numbers[field] for field in self.numbers}
        other.counts = {spot: self.counts[spot] for spot in self.counts}
        other.is_begun = self.is_begun
        other.taken = self.taken
        other.end = self.end
        other.shown = list(self.shown)
        other.path = list(self.path)
        other.seen = list(self.seen)
        other.own = {spot: self.own[spot] for spot in self.own}
        other.order = list(self.order)
        other.finds = list(self.finds)
        other.early = list(self.early)
        return other

    def stack(self):
        """Return the tuple of (function, place) of all frames."""
        return tuple([(function, place) for function, place, _ in self.frames])

    def instruction(self):
        """Return the instruction that the last frame stands at."""
        function, place, _ = self.frames[-1]
        return self.program[1][function][1][place]

    def begin(self, function):
        """Call the function; then its frame stands at its first instruction, if the access of its unit did not fail."""
        self.is_begun = True
        self.end = None
        if self.access(self.program[1][function][0]):
            self._call(function)
        else:
            self.fail()

    def resume(self):
        """Let an execution that waits for an input go on."""
        # The extra accesses before the instruction do nothing a second time: their units are awake or broken by now.
        self.end = None

    def fail(self):
        """Give up all frames of functions."""
        self.frames = []
        self.end = "failed"

    def advance(self, inputs, besides):
        """Execute the instruction that the last frame has come to; before it the units besides are accessed, too."""
        frame = self.frames[-1]
        function, place, _ = frame
        body = ("function", function)
        instruction = self.instruction()
        self._find(body, place, instruction)
        if not self.access_all(self.extra.get((function, place), []) + besides):
            self.fail()
        elif instruction[0] in TAKING_WORDS and self.taken == len(inputs):
            self.end = "waits"
        else:
            passed = self._pass(body, place, instruction)
            if passed or instruction[0] == "wake":
                self.path.append((function, place))
                self._take_place(frame, instruction, passed, inputs)
            else:
                self.fail()

    def access_all(self, units):
        """Access the units that are not broken, one after the other; tell whether none of these accesses fails."""
        for unit in units:
            if self.statuses[unit] != "broken" and not self.access(unit):
                return False
        return True

    def access(self, unit):
        """Access the unit, and wake it if it is asleep; tell whether this does not fail."""
        if self.statuses[unit] == "asleep":
            self._wake(unit)
        return self.statuses[unit] != "broken"

    def _wake(self, unit):
        self.statuses[unit] = "waking"
        self.order.append((unit, len(self.path) if self.is_begun else -1))
        parent = self.program[0][unit][0]
        done = (parent is None or self.access(parent)) and self._initialize(unit)
        self.statuses[unit] = "awake" if done else "broken"

    def _initialize(self, unit):
        """Execute the unit's initializer; tell whether nothing in it fails."""
        body = ("unit", unit)
        slots = [0, 0, 0]
        for place, instruction in enumerate(self.program[0][unit][2]):
            self._find(body, place, instruction)
            if not self._pass(body, place, instruction):
                return False
            self._compute(body, place, instruction, slots)
        return True

    def _find(self, body, place, instruction):
        """Record the status of the unit that the instruction accesses, if it accesses one."""
        unit = accessed_unit(self.program, instruction)
        if unit is not None:
            self.finds.append((body, place, self.statuses[unit]))

    def _pass(self, body, place, instruction):
        """Make the instruction's access, if it has one that is checked; tell whether the instruction does not fail."""
        if instruction[0] == "fail":
            return False
        unit = accessed_unit(self.program, instruction)
        return unit is None or (body, place) in self.unchecked or self.access(unit)

    def _call(self, function):
        self.frames.append([function, 0, [0, 0, 0]])

    def _take_place(self, frame, instruction, passed, inputs):
        """Do what the instruction of a function does behind its access, and go on to the next one."""
        function, place, slots = frame
        word = instruction[0]
        if word == "call":
            # The caller stands at the call until the function that it calls has returned.
            self._call(instruction[1])
            return
        following = place + 1
        if word == "input":
            slots[instruction[1]] = self._take(inputs)
        elif word == "branch":
            following = place + 1 if self._take(inputs) == 0 else instruction[1]
        elif word == "show":
            self.shown.append(slots[instruction[1]])
        elif word == "wake":
            following = place + 1 if passed else instruction[2]
        else:
            self._compute(("function", function), place, instruction, slots)
        frame[1] = following
        self._return()

    def _take(self, inputs):
        self.taken += 1
        return inputs[self.taken - 1]

    def _return(self):
        """Return from the functions that have come to their ends."""
        while self.frames and self.frames[-1][1] == len(self.program[1][self.frames[-1][0]][1]):
            self.frames.pop()
            if self.frames:
                self.frames[-1][1] += 1
        if not self.frames:
            self.end = "done"

    def _compute(self, body, place, instruction, slots):
        """Do what an instruction does that initializers may have, too, and record it."""
        compute(instruction, slots, self.numbers)
        if instruction[0] == "read":
            _, _, unit, field = instruction
            self._see(body, place, unit, self.last.get((unit, field)))
        elif instruction[0] == "write":
            _, unit, field, _ = instruction
            self._name_write(body, place, unit, field)

    def _see(self, body, place, unit, name):
        """Record that this read of a field of the unit sees the write with this name, None for no write."""
        if body[0] == "function":
            self.seen.append(name)
        else:
            self.own[(body[1], place)] = name
        if name is None and self.statuses[unit] == "waking":
            self.early.append((body, place))

    def _name_write(self, body, place, unit, field):
        """Remember the write that takes place here as the last one of the field."""
        count = self.counts.get((body, place), 0)
        self.counts[(body, place)] = count + 1
        self.last[(unit, field)] = (body, place, count)
