"""Configurations: what all runs of a program come to, whatever their inputs, and how many inputs that takes."""

from firstwake.plain import Execution, execution_at
from firstwake.programs import need_program
from firstwake.searches import Search, spread
from firstwake.values import is_same


def configurations(program):
    """Return a dict from all configurations that some run comes to to the least number of inputs before."""
    need_program(program)
    least = all_runs(program).search.least
    return {configuration: least[configuration] for configuration in least}


def are_configurations(program, thing):
    """Tell whether thing is what configurations(program) returns."""
    need_program(program)
    return is_same(thing, all_runs(program).search.least)


def all_runs(program):
    """Return the Runs of the program, of which each part is found with the fewest inputs."""
    runs = Runs(program)
    execution = Execution(program, ([], [], []))
    execution.begin(0)
    runs.note(execution, None)
    spread(runs.search, [] if execution.end else [_configuration_of(execution)], runs.follow, None)
    return runs


def _configuration_of(execution):
    return execution.stack(), tuple(execution.statuses), tuple(sorted(execution.last))


class Runs:
    """What all runs of a program come to, and how they come there."""

    def __init__(self, program):
        self.program = program
        self.model = Execution(program, ([], [], []))
        self.search = Search()
        self.first_finds = {}
        self.first_early = {}

    def follow(self, configuration):
        """Return the list of what follows the configuration, each with the input that is taken between, or None."""
        stack, statuses, written = configuration
        followings = []
        for number in (0, 1):
            execution = execution_at(self.model, stack, statuses, {field: "written" for field in written})
            execution.advance([number], [])
            is_taken = execution.taken > 0
            if execution.end is None:
                followings.append((_configuration_of(execution), number if is_taken else None))
            if not is_taken:
                # No access takes an input, so what is to be noted is noted here.
                self.note(execution, configuration)
                return followings
        return followings

    def note(self, execution, configuration):
        """Remember what the execution found since it stood at the configuration, if that was not found before."""
        for find in execution.finds:
            self.first_finds.setdefault(find, configuration)
        for access in execution.early:
            self.first_early.setdefault(access, configuration)
