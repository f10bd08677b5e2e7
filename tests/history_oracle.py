"""Histories by the words of the document: executed whole from their beginning, and compared at their ends.

Each execution remembers how things are at each instruction that it comes to and whenever no call is under way. A
library pair is made of two such memories, its words worked out from the names of the writes and the paths.
"""

from tests.oracle import Frame, Oracle
from tests.pair_oracle import agree, side


class HistoryOracle(Oracle):
    def __init__(self, program, history, plan=((), (), ())):
        super().__init__(program, history[1], plan)
        self.calls = history[0]
        self.ends = []
        self.firsts = []
        self.moments = {}

    def run(self):
        for unit in self.ahead:
            if not self.access_from_outside(unit):
                return self
        self.moment = 0
        self.remember("idle")
        for function in self.calls:
            self.call(function)
            if self.ends[-1] == "waits":
                return self
            self.remember("idle")
        return self

    def call(self, function):
        self.end = None
        self.moment = len(self.path)
        self.firsts.append(len(self.path))
        self.ends.append(None)
        if self.access_from_outside(self.functions[function][0]):
            self.frames.append(Frame(("function", function), 0, self.functions[function][1]))
            while self.end is None:
                self.move()
        self.ends[-1] = self.end

    def come(self, frame, unit):
        if frame.body[0] == "function":
            self.remember("at")
        super().come(frame, unit)

    def remember(self, word):
        self.moments[len(self.ends), len(self.path), word] = {
            "stack": tuple((below.body[1], below.place) for below in self.frames), "statuses": tuple(self.statuses),
            "last": {field: held[1] for field, held in self.fields.items() if field != "all"}, "own": dict(self.own),
            "seen": list(self.seen), "ends": list(self.ends), "cost": len(self.ends) + self.taken,
        }

    def paths(self):
        bounds = self.firsts + [len(self.path)]
        return [self.path[bounds[at]:bounds[at + 1]] for at in range(len(self.firsts))]

    def records(self):
        return self.ends, self.output, self.paths(), self.seen, self.own, self.order, self.finds


def run_history(program, history, plan=((), (), ())):
    return HistoryOracle(program, history, plan).run()


def are_alike(one, other):
    """Tell whether two executions of a history are alike."""
    same = (one.ends, one.paths(), one.seen) == (other.ends, other.paths(), other.seen)
    return same and agree(one.own, other.own)


def pairs_of(program, one, other):
    """Yield (pair, number of calls and inputs) for all library pairs that the two executions come to."""
    for key, mine in one.moments.items():
        its = other.moments.get(key)
        if its is None or mine["ends"] != its["ends"] or mine["seen"] != its["seen"] or not agree(mine["own"], its["own"]):
            continue
        at = key[1]
        if one.firsts[:key[0]] == other.firsts[:key[0]] and one.path[:at] == other.path[:at] and mine["stack"] == its["stack"]:
            path = one.path[:at]
            yield (mine["stack"], side(program, mine, its, path), side(program, its, mine, path)), its["cost"]


def histories(program, most, plans=(((), (), ()),)):
    """Yield (number of calls and inputs, history, executions with the plans), the fewest first.

    Each history is gone on with by an input where an execution waits, else by a call of each function.
    """
    level = [([], [])]
    for many in range(most + 1):
        following = []
        for calls, inputs in level:
            executions = [run_history(program, (calls, inputs), plan) for plan in plans]
            yield many, (calls, inputs), executions
            if any(one.ends and one.ends[-1] == "waits" for one in executions):
                following.extend([(calls, inputs + [number]) for number in (0, 1)])
            else:
                following.extend([(calls + [function], inputs) for function in range(len(program[1]))])
        level = following


def all_pairs(program, plan, most):
    """Return (fewest calls and inputs of executions that are not alike or None, a dict from pairs to their fewest)."""
    found = {}
    fewest = None
    for many, _, (one, other) in histories(program, most, (plan, ((), (), ()))):
        if fewest is not None and many > fewest:
            break
        for pair, cost in pairs_of(program, one, other):
            found[pair] = min(cost, found.get(pair, cost))
        if not are_alike(one, other):
            fewest = many
    return fewest, found


def all_configurations(program, most):
    """Return a dict from library configurations to their fewest calls and inputs, and one from finds to theirs."""
    found, finds = {}, {}
    for many, _, (execution,) in histories(program, most):
        for moment in execution.moments.values():
            configuration = moment["stack"], moment["statuses"]
            found[configuration] = min(moment["cost"], found.get(configuration, moment["cost"]))
        for find in execution.finds:
            finds.setdefault(find, many)
    return found, finds
