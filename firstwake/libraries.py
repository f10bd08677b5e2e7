"""Libraries: histories of calls, executed at once or step by step."""

from firstwake.errors import NoFunction, NoMove, NoRoom, WakeError
from firstwake.needs import need_mark, need_number, need_plan
from firstwake.plain import Execution
from firstwake.programs import MOST_INPUTS, is_inputs, need_program
from firstwake.values import is_index, is_tuple

MOST_CALLS = 100


class NoHistory(WakeError):
    """For what is no history of the program."""


def is_history(program, thing):
    """Tell whether thing is a history of the program."""
    need_program(program)
    if not (is_tuple(thing, 2) and isinstance(thing[0], list) and len(thing[0]) <= MOST_CALLS):
        return False
    return all([is_index(member, len(program[1])) for member in thing[0]]) and is_inputs(thing[1])


def history_run(program, history, plan):
    """Return (ends, output, path, seen, own, order, finds) of the execution of the history with the plan."""
    need_program(program)
    if not is_history(program, history):
        raise NoHistory("this is no history of the program")
    need_plan(program, plan)
    calls, inputs = history
    course = Course(program, plan)
    for function in calls:
        if course.standing() == "idle":
            course.begin(function, inputs)
    return course.records()


class Course:
    """The execution of a history with a plan: how far it has come."""

    def __init__(self, program, plan):
        self.execution = Execution(program, plan)
        self.is_sound = self.execution.access_all(plan[0])
        self.ends = []
        self.beginnings = []

    def standing(self):
        """Return "idle", "waits", or "failed" if a unit ahead failed."""
        if not self.is_sound:
            return "failed"
        return "waits" if self.ends and self.ends[-1] == "waits" else "idle"

    def begin(self, function, inputs):
        """Begin a call of the function, and execute it as far as the inputs reach."""
        self.beginnings.append(len(self.execution.path))
        self.execution.begin(function)
        self.ends.append(self.execution.end)
        self.go_on(inputs)

    def go_on(self, inputs):
        """Execute the call under way as far as the inputs reach."""
        while self.execution.end is None:
            self.execution.advance(inputs, [])
        self.ends[-1] = self.execution.end

    def resume(self, inputs):
        """Let the call that waits go on."""
        self.execution.resume()
        self.go_on(inputs)

    def records(self):
        """Return what history_run returns."""
        _, shown, path, seen, own, order, finds = self.execution.copied().records()
        bounds = self.beginnings + [len(path)]
        paths = [path[bounds[at]:bounds[at + 1]] for at in range(len(self.beginnings))]
        return list(self.ends), shown, paths, seen, own, order, finds

    def copied(self):
        """Return another course that is the same, and stays so."""
        other = Course(self.execution.program, ([], [], []))
        other.execution = self.execution.copied()
        other.is_sound = self.is_sound
        other.ends = list(self.ends)
        other.beginnings = list(self.beginnings)
        return other


class Session:
    """A history that is executed step by step, with a plan."""

    def __init__(self, program, plan):
        need_program(program)
        need_plan(program, plan)
        self._program = program
        self._plan = tuple([list(part) for part in plan])
        self._course = Course(program, self._plan)
        self._calls = []
        self._inputs = []
        self._marks = []

    def call(self, function):
        """Begin a call of the function and execute it until it ends or waits."""
        if not is_index(function, len(self._program[1])):
            raise NoFunction("this is no function of the program")
        if self._course.standing() != "idle":
            raise NoMove("no call can be begun now")
        if len(self._calls) == MOST_CALLS:
            raise NoRoom("there are all the calls that there may be")
        self._calls.append(function)
        self._course.begin(function, self._inputs)

    def feed(self, number):
        """Give an input more, with which a call that waits goes on."""
        need_number(number)
        if len(self._inputs) == MOST_INPUTS:
            raise NoRoom("there are all the inputs that there may be")
        self._inputs.append(number)
        if self._course.standing() == "waits":
            self._course.resume(self._inputs)

    def stands(self):
        """Return "idle", "waits", or "failed" if a unit ahead failed."""
        return self._course.standing()

    def history(self):
        """Return the tuple of the list of all calls begun and the list of all inputs fed."""
        return list(self._calls), list(self._inputs)

    def record(self):
        """Return what history_run returns for the history and the plan."""
        return self._course.records()

    def mark(self):
        """Make a mark and return its number."""
        self._marks.append((self._course.copied(), list(self._calls), list(self._inputs)))
        return len(self._marks) - 1

    def back(self, number):
        """Return to what was there when the mark was made."""
        need_mark(number, len(self._marks))
        course, calls, inputs = self._marks[number]
        self._course = course.copied()
        self._calls = list(calls)
        self._inputs = list(inputs)
        self._marks = self._marks[:number + 1]

    def __len__(self):
        return len(self._calls)

    def __eq__(self, other):
        if not isinstance(other, Session):
            return False
        if self._program != other._program or self._plan != other._plan:
            return False
        return self._calls == other._calls and self._inputs == other._inputs
