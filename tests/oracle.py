"""The execution of the document once more, step by step over a visible stack of frames, to compare with.

Here nothing is called while a unit is waking: each frame, also that of an initializer, stands in one list, and a
failure takes frames off it one by one. So it shares no way of working with the package.
"""

import itertools


class Frame:
    def __init__(self, body, place, code):
        self.body = body
        self.place = place
        self.code = code
        self.slots = [0, 0, 0]
        self.is_new = True
        self.extra = []


class Oracle:
    def __init__(self, program, inputs, plan=((), (), ()), woken=None):
        self.units, self.functions = program
        self.inputs = list(inputs)
        self.ahead, self.unchecked, self.extra = plan
        self.woken = woken
        self.statuses = ["asleep" for _ in self.units]
        self.fields = {}
        self.frames = []
        self.written = []
        self.end = None
        self.output, self.path, self.seen, self.own, self.order, self.finds = [], [], [], {}, [], []
        self.taken = 0
        self.comings = []
        self.early = []
        self.moment = -1

    def records(self):
        return self.end, self.output, self.path, self.seen, self.own, self.order, self.finds

    def execute(self):
        for unit in self.ahead:
            if not self.access_from_outside(unit):
                return self
        self.moment = 0
        if self.access_from_outside(self.functions[0][0]):
            self.frames.append(Frame(("function", 0), 0, self.functions[0][1]))
            while self.end is None:
                self.move()
        return self

    def access_from_outside(self, unit):
        """Access a unit with no frame below; tell whether that did not fail."""
        if self.statuses[unit] == "asleep":
            self.push(unit)
            while self.frames and self.end is None:
                self.move()
        elif self.statuses[unit] == "broken":
            self.end = "failed"
        return self.end is None

    def push(self, unit):
        self.statuses[unit] = "waking"
        self.order.append((unit, self.moment))
        parent, _, code = self.units[unit]
        self.frames.append(Frame(("unit", unit), 0 if parent is None else -1, code))

    def move(self):
        frame = self.frames[-1]
        if frame.place == len(frame.code):
            self.leave(frame)
        elif frame.place == -1:
            if self.access(self.units[frame.body[1]][0]):
                frame.place = 0
        else:
            self.instruct(frame)

    def leave(self, frame):
        self.frames.pop()
        if frame.body[0] == "unit":
            self.statuses[frame.body[1]] = "awake"
        elif self.frames:
            self.frames[-1].place += 1
            self.frames[-1].is_new = True
        else:
            self.end = "done"

    def access(self, unit):
        """Tell whether an access of the unit takes place in this move; if not, another frame stands on top."""
        status = self.statuses[unit]
        if status == "asleep":
            self.push(unit)
        elif status == "broken":
            self.give_up()
        return status in ("waking", "awake")

    def give_up(self):
        while self.frames:
            frame = self.frames[-1]
            if frame.body[0] == "unit":
                self.statuses[frame.body[1]] = "broken"
            elif frame.code[frame.place][0] == "wake" and not frame.extra:
                self.path.append((frame.body[1], frame.place))
                self.moment = len(self.path)
                frame.place = frame.code[frame.place][2]
                frame.is_new = True
                return
            self.frames.pop()
        self.end = "failed"

    def instruct(self, frame):
        instruction = frame.code[frame.place]
        word = instruction[0]
        unit = {"read": lambda: instruction[2], "write": lambda: instruction[1], "wake": lambda: instruction[1],
                "call": lambda: self.functions[instruction[1]][0]}.get(word, lambda: None)()
        if frame.is_new:
            self.come(frame, unit)
        while frame.extra:
            # A unit that the access before woke is awake now, so to ask again does no harm.
            if self.statuses[frame.extra[0][0]] == "broken" and not frame.extra[0][1]:
                frame.extra.pop(0)
                continue
            frame.extra[0] = (frame.extra[0][0], True)
            if not self.access(frame.extra[0][0]):
                return
            frame.extra.pop(0)
        if word in ("input", "branch") and self.taken == len(self.inputs):
            self.end = "waits"
        elif word == "fail":
            self.give_up()
        elif unit is None or (frame.body, frame.place) in self.unchecked or self.access(unit):
            self.complete(frame, word, *instruction[1:])

    def come(self, frame, unit):
        frame.is_new = False
        if frame.body[0] == "function":
            stack = tuple((below.body[1], below.place) for below in self.frames)
            configuration = (stack, tuple(self.statuses), tuple(sorted(set(self.written))))
            self.comings.append((configuration, self.taken))
            frame.extra = [
                (extra, False) for function, place, extra in self.extra if (function, place) == stack[-1]
            ]
            if self.woken and self.woken[1] == len(self.path):
                frame.extra.append((self.woken[0], False))
        if unit is not None:
            self.finds.append((frame.body, frame.place, self.statuses[unit]))

    def complete(self, frame, word, *operands):
        if frame.body[0] == "function":
            self.path.append((frame.body[1], frame.place))
            self.moment = len(self.path)
        spot = (frame.body, frame.place)
        going = frame.place + 1
        slots = frame.slots
        if word == "call":
            self.frames.append(Frame(("function", operands[0]), 0, self.functions[operands[0]][1]))
            return
        if word in ("input", "branch"):
            number = self.inputs[self.taken]
            self.taken += 1
            if word == "input":
                slots[operands[0]] = number
            elif number:
                going = operands[0]
        elif word == "number":
            slots[operands[0]] = operands[1]
        elif word == "copy":
            slots[operands[0]] = slots[operands[1]]
        elif word == "add":
            slots[operands[0]] = (slots[operands[0]] + operands[1]) & 0xFFFF
        elif word == "show":
            self.output.append(slots[operands[0]])
        elif word == "write":
            self.written.append(operands[:2])
            name = (*spot, sum(1 for number, by in self.fields.get("all", []) if by == spot))
            self.fields.setdefault("all", []).append((operands[:2], spot))
            self.fields[operands[:2]] = (slots[operands[2]], name)
        elif word == "read":
            slots[operands[0]], name = self.fields.get(operands[1:], (0, None))
            if frame.body[0] == "function":
                self.seen.append(name)
            else:
                self.own[frame.body[1], frame.place] = name
            if name is None and self.statuses[operands[1]] == "waking":
                self.early.append(spot)
        frame.place = going
        frame.is_new = True


def execute(program, inputs, plan=((), (), ()), woken=None):
    return Oracle(program, inputs, plan, woken).execute()


def all_executions(program, most):
    """Yield (inputs, execution) for all inputs of 0 and 1 that a run takes, each with at most so many."""
    level = [()]
    for _ in range(most + 1):
        following = []
        for inputs in level:
            execution = execute(program, inputs)
            yield inputs, execution
            if execution.end == "waits":
                following.extend([inputs + (0,), inputs + (1,)])
        level = following


def product_of_inputs(most):
    for many in range(most + 1):
        yield from itertools.product([0, 1], repeat=many)
