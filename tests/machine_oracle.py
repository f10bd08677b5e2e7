"""A machine by the words of the document: the threads of the oracle with numbers, and whole copies of it as marks."""

import copy

from tests.oracle import Oracle
from tests.thread_oracle import Blocked, Crew, Failure, Woken, first_state, unit_of


class OracleMachine(Crew):
    def __init__(self, program, starts, ahead):
        super().__init__(program, starts, first_state(program, starts, ahead))
        oracle = Oracle(program, [])
        for unit in ahead:
            oracle.access_from_outside(unit)
        self.fields = {field: held[0] for field, held in oracle.fields.items() if field != "all"}
        self.inputs = [[] for _ in starts]
        self.left = [[] for _ in starts]
        self.outputs = [[] for _ in starts]
        self.done = []
        self.reasons = {}
        self.copies = []

    def state(self):
        return tuple(self.statuses), tuple(tuple(tuple(frame[:2]) for frame in frames) for frames in self.threads)

    def access(self, thread, unit):
        if self.statuses[unit] == "asleep":
            frames = self.threads[thread]
            functions = [at for at, frame in enumerate(frames) if frame[0][0] != "unit"]
            self.reasons[unit] = [tuple(frame[:2]) for frame in frames[functions[-1]:]]
        super().access(thread, unit)

    def instruct(self, thread, frame, instruction, bit):
        super().instruct(thread, frame, instruction, bit)
        if len(frame) == 2:
            frame.append([0, 0, 0])
        slots, (word, *parts) = frame[2], instruction
        if word in ("input", "branch"):
            number = self.left[thread].pop(0)
            if word == "input":
                slots[parts[0]] = number
        elif word == "number":
            slots[parts[0]] = parts[1]
        elif word == "copy":
            slots[parts[0]] = slots[parts[1]]
        elif word == "add":
            slots[parts[0]] = (slots[parts[0]] + parts[1]) % 65536
        elif word == "show":
            self.outputs[thread].append(slots[parts[0]])
        elif word == "read":
            slots[parts[0]] = self.fields.get((parts[1], parts[2]), 0)
        elif word == "write":
            self.fields[parts[0], parts[1]] = slots[parts[2]]

    def stands(self, thread):
        frames = self.threads[thread]
        if not frames:
            return "done"
        if frames[-1][0][0] == "failed":
            return "failed"
        trial = copy.deepcopy(self)
        trial.left[thread].append(0)
        try:
            trial.go(thread, 0)
        except Blocked:
            return "blocked", trial.needed
        except (Woken, Failure):
            pass
        return "waits" if len(self.bits(thread)) == 2 and not self.left[thread] else "moves"

    def go(self, thread, bit):
        (kind, number), place = self.threads[thread][-1][:2]
        if kind == "start":
            self.needed = self.program[1][self.callers[number]][0]
        elif place == -1:
            self.needed = self.program[0][number][0]
        else:
            code = self.code((kind, number))
            self.needed = unit_of(self.program, code[place]) if place < len(code) else None
        super().go(thread, bit)

    def step(self, thread):
        """Do the next move of the thread; tell whether there was one."""
        if self.stands(thread) != "moves":
            return False
        bit = 0
        if len(self.bits(thread)) == 2:
            bit = int(self.left[thread][0] != 0)
        self.move(thread, bit)
        self.done.append((thread, bit))
        return True

    def feed(self, thread, number):
        if len(self.inputs[thread]) == 100:
            return False
        self.inputs[thread].append(number)
        self.left[thread].append(number)
        return True

    def mark(self):
        one = copy.deepcopy({name: part for name, part in vars(self).items() if name not in ("program", "copies")})
        self.copies.append(one)
        return len(self.copies) - 1

    def back(self, number):
        if not 0 <= number < len(self.copies):
            return False
        vars(self).update(copy.deepcopy(self.copies[number]))
        del self.copies[number + 1:]
        return True

    def blocked_by(self, thread):
        """Return the thread that holds what this one is blocked by, else None."""
        stands = self.stands(thread)
        return int(self.statuses[stands[1]].split()[1]) if isinstance(stands, tuple) else None

    def cycle(self):
        for thread in range(len(self.threads)):
            way = [thread]
            while (other := self.blocked_by(way[-1])) is not None and other not in way:
                way.append(other)
            if other == thread:
                return sorted(way)
        return []

    def everything(self):
        """Return all that a machine tells, asked for without changing it."""
        threads = range(len(self.threads))
        return (
            self.state(), list(self.done), [list(self.outputs[thread]) for thread in threads],
            [self.stands(thread) for thread in threads], [self.reasons.get(unit, []) for unit in range(len(self.program[0]))],
            self.cycle(),
        )
