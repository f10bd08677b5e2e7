"""Configurations: what all runs of a program come to, whatever their inputs, and how many inputs that takes."""

from firstwake.errors import TooMany
from firstwake.plain import Execution
from firstwake.programs import need_program
from firstwake.values import is_same

MOST_CONFIGURATIONS = 2000


def configurations(program):
    """Return a dict from all configurations that some run comes to to the least number of inputs before."""
    need_program(program)
    least = all_runs(program).least
    return {configuration: least[configuration] for configuration in least}


def are_configurations(program, thing):
    """Tell whether thing is what configurations(program) returns."""
    need_program(program)
    return is_same(thing, all_runs(program).least)


def all_runs(program):
    """Return the Runs of the program, of which each part is found with the fewest inputs."""
    runs = Runs()
    execution = Execution(program, ([], [], []))
    execution.begin(0)
    runs.note(execution, None)
    many, now, later = 0, [], []
    if execution.end is None:
        now.append((_configuration_of(execution), None, None))
    while now:
        configuration, before, number = now.pop()
        if configuration not in runs.least:
            runs.settle(configuration, many, before, number)
            _go_on(program, runs, configuration, now, later)
        if not now:
            many, now, later = many + 1, later, []
    return runs


def _go_on(program, runs, configuration, now, later):
    """Put what follows the configuration to the others of now, or of later if an input is taken between."""
    for number in (0, 1):
        execution = _execution_at(program, configuration)
        execution.advance([number], [])
        is_taken = execution.taken > 0
        if execution.end is None:
            following = (_configuration_of(execution), configuration, number if is_taken else None)
            if is_taken:
                later.append(following)
            else:
                now.append(following)
        if not is_taken:
            # No access takes an input, so what is to be noted is noted here.
            runs.note(execution, configuration)
            return


def _execution_at(program, configuration):
    """Return an execution that has come to the configuration; its numbers, which steer nothing, are 0."""
    stack, statuses, written = configuration
    execution = Execution(program, ([], [], []))
    execution.statuses = list(statuses)
    execution.frames = [[function, place, [0, 0, 0]] for function, place in stack]
    execution.last = {field: "written" for field in written}
    return execution


def _configuration_of(execution):
    stack = tuple([(function, place) for function, place, _ in execution.frames])
    return stack, tuple(execution.statuses), tuple(sorted(execution.last))


class Runs:
    """What all runs of a program come to, and how they come there."""

    def __init__(self):
        self.least = {}
        self.befores = {}
        self.first_finds = {}
        self.first_early = {}

    def settle(self, configuration, many, before, number):
        """Keep a configuration that so many inputs lead to, from the one before, by the number if one is taken."""
        if len(self.least) == MOST_CONFIGURATIONS:
            raise TooMany("there are too many configurations")
        self.least[configuration] = many
        self.befores[configuration] = (before, number)

    def note(self, execution, configuration):
        """Remember what the execution found since it stood at the configuration, if that was not found before."""
        for find in execution.finds:
            self.first_finds.setdefault(find, configuration)
        for access in execution.early:
            self.first_early.setdefault(access, configuration)

    def inputs_to(self, configuration):
        """Return the inputs that lead to the configuration, None being what stands before the first one."""
        inputs = []
        while configuration is not None:
            configuration, number = self.befores[configuration]
            if number is not None:
                inputs.append(number)
        return inputs[::-1]
