"""Threads by the words of the document, as objects that change; and plain searches over what they come to.

A move is tried out on the objects: what keeps it from taking place is raised. States are told and read in the form
of the document, so that a search can go on from each of them.
"""

from tests.oracle import Oracle


class Woken(Exception):
    pass


class Blocked(Exception):
    pass


class Failure(Exception):
    pass


def unit_of(program, instruction):
    return {"read": lambda: instruction[2], "write": lambda: instruction[1], "wake": lambda: instruction[1],
            "call": lambda: program[1][instruction[1]][0]}.get(instruction[0], lambda: None)()


def first_state(program, callers, ahead):
    oracle = Oracle(program, [])
    for unit in ahead:
        if not oracle.access_from_outside(unit):
            return "failed"
    threads = tuple(((("open" if caller == "open" else "start", at), 0),) for at, caller in enumerate(callers))
    return tuple(oracle.statuses), threads


class Crew:
    """Threads in a state; move() changes them."""

    def __init__(self, program, callers, state, unchecked=()):
        self.program, self.callers, self.unchecked = program, callers, unchecked
        self.statuses = list(state[0])
        self.threads = [[list(frame) for frame in frames] for frames in state[1]]

    def state(self):
        return tuple(self.statuses), tuple(tuple(map(tuple, frames)) for frames in self.threads)

    def code(self, body):
        return self.program[0][body[1]][2] if body[0] == "unit" else self.program[1][body[1]][1]

    def access(self, thread, unit):
        status = self.statuses[unit]
        if status == "asleep":
            self.statuses[unit] = f"held {thread}"
            self.threads[thread].append([("unit", unit), -1 if self.program[0][unit][0] is not None else 0])
            raise Woken
        if status == "broken":
            raise Failure
        if status not in ("awake", f"held {thread}"):
            raise Blocked

    def bits(self, thread):
        """Return the second numbers of the moves that there may be, if nothing keeps the thread back."""
        frames = self.threads[thread]
        if not frames or frames[-1][0][0] == "failed":
            return []
        (kind, number), place = frames[-1][:2]
        if kind == "open":
            return list(range(len(self.program[1])))
        if kind in ("unit", "function") and 0 <= place < len(self.code((kind, number))):
            return [0, 1] if self.code((kind, number))[place][0] in ("input", "branch") else [0]
        return [0]

    def move(self, thread, bit):
        """Do the move; tell whether there is such a one."""
        if bit not in self.bits(thread):
            return False
        try:
            self.go(thread, bit)
        except Woken:
            return True
        except Blocked:
            return False
        except Failure:
            self.give_up(thread)
        return True

    def give_up(self, thread):
        frames = self.threads[thread]
        while True:
            (kind, number), place = frames[-1][:2]
            if kind == "unit":
                self.statuses[number] = "broken"
            elif kind == "function" and self.code((kind, number))[place][0] == "wake":
                frames[-1][1] = self.code((kind, number))[place][2]
                return
            elif kind == "start":
                frames[:] = [[("failed", thread), 0]]
                return
            elif kind == "open":
                return
            frames.pop()

    def go(self, thread, bit):
        frames = self.threads[thread]
        frame = frames[-1]
        (kind, number), place = frame[:2]
        if kind == "open":
            frames.append([("call", bit), 0])
        elif kind in ("start", "call"):
            function = number if kind == "call" else self.callers[number]
            self.access(thread, self.program[1][function][0])
            frames.append([("function", function), 0])
        elif place == -1:
            self.access(thread, self.program[0][number][0])
            frame[1] = 0
        elif place == len(self.code((kind, number))):
            frames.pop()
            self.leave(frames, kind, number)
        else:
            self.instruct(thread, frame, self.code((kind, number))[place], bit)

    def leave(self, frames, kind, number):
        if kind == "unit":
            self.statuses[number] = "awake"
        elif frames[-1][0][0] == "function":
            frames[-1][1] += 1
        else:
            frames.pop()

    def instruct(self, thread, frame, instruction, bit):
        if instruction[0] == "fail":
            raise Failure
        unit = unit_of(self.program, instruction)
        if unit is not None and tuple(frame[:2]) not in self.unchecked:
            self.access(thread, unit)
        if instruction[0] == "call":
            self.threads[thread].append([("function", instruction[1]), 0])
        elif instruction[0] == "branch" and bit:
            frame[1] = instruction[1]
        else:
            frame[1] += 1

    def blocker(self, thread):
        """Return the thread that holds what this one accesses, None if it is not blocked."""
        before = self.state()
        trial = Crew(self.program, self.callers, before, self.unchecked)
        bits = trial.bits(thread)
        if not bits or trial.move(thread, bits[0]):
            return None
        (kind, number), place = trial.threads[thread][-1][:2]
        if kind in ("start", "call"):
            unit = self.program[1][number if kind == "call" else self.callers[number]][0]
        elif place == -1:
            unit = self.program[0][number][0]
        else:
            unit = unit_of(self.program, self.code((kind, number))[place])
        return int(self.statuses[unit].split()[1])

    def cycle(self):
        for thread in range(len(self.threads)):
            way = [thread]
            while (other := self.blocker(way[-1])) is not None and other not in way:
                way.append(other)
            if other == thread:
                return sorted(way)
        return []

    def finds(self):
        """Return the list of (thread, body, place, word) for the threads that stand at an access."""
        found = []
        for thread, frames in enumerate(self.threads):
            if frames and frames[-1][0][0] in ("unit", "function"):
                body, place = frames[-1]
                unit = unit_of(self.program, self.code(body)[place]) if 0 <= place < len(self.code(body)) else None
                if unit is not None:
                    status = self.statuses[unit]
                    if status.startswith("held"):
                        status = "self" if status == f"held {thread}" else "other"
                    found.append((thread, body, place, status))
        return found


def moves(program, callers, state, unchecked=()):
    """Return the ascending list of (move, state after it)."""
    found = []
    for thread in range(len(callers)):
        for bit in range(max(2, len(program[1]))):
            crew = Crew(program, callers, state, unchecked)
            if crew.move(thread, bit):
                found.append(((thread, bit), crew.state()))
    return found


def after(program, callers, ahead, schedule, unchecked=()):
    """Return the state that the schedule leads to, None if there is none."""
    crew = Crew(program, callers, first_state(program, callers, ahead), unchecked)
    for thread, bit in schedule:
        if not crew.move(thread, bit):
            return None
    return crew.state()


def reached(program, callers, ahead, unchecked=(), most=3000):
    """Return a dict from all states to the least number of moves that lead there, None if they are more than most."""
    level = [first_state(program, callers, ahead)]
    found = {level[0]: 0}
    many = 0
    while level:
        many += 1
        fresh = []
        for state in level:
            for _, following in moves(program, callers, state, unchecked):
                if following not in found:
                    found[following] = many
                    fresh.append(following)
        level = fresh
        if len(found) > most:
            return None
    return found


def is_dead(program, callers, state):
    live = [frames for frames in state[1] if frames and frames[0][0][0] != "failed"]
    return bool(live) and not moves(program, callers, state)
