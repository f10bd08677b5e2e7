"""Histories: what all histories of a program come to, and whether a plan can be noticed by one."""

from firstwake.checks import told_statuses, unneeded
from firstwake.errors import TooLong
from firstwake.needs import need_access, need_plan, need_status
from firstwake.plain import Execution, execution_at
from firstwake.programs import need_program
from firstwake.searches import Search, spread
from firstwake.sides import NOTICED, Sides
from firstwake.values import are_members, is_same

# The words of the steps that count: a call that is begun, an input that is taken.
CALL = "call"
TAKE = "take"
MOST_STEPS = 100


def library_configurations(program):
    """Return a dict from all library configurations to the least number of calls and inputs that lead to them."""
    need_program(program)
    least = _all_histories(program).search.least
    return {configuration: least[configuration] for configuration in least}


def are_library_configurations(program, thing):
    """Tell whether thing is what library_configurations(program) returns."""
    need_program(program)
    return is_same(thing, _all_histories(program).search.least)


def library_statuses(program):
    """Return a dict from each access that some history comes to to the ascending tuple of the statuses found there."""
    need_program(program)
    return told_statuses(_all_histories(program).first_finds)


def library_needless(program):
    """Return the ascending list of the accesses, not of a "wake", whose check does nothing in any history."""
    need_program(program)
    return unneeded(program, _all_histories(program).first_finds)


def status_history(program, body, place, status):
    """Return a history with the fewest calls and inputs that finds the status at the access, or None."""
    need_program(program)
    need_access(program, body, place)
    need_status(status)
    histories = _all_histories(program)
    if (body, place, status) not in histories.first_finds:
        return None
    many, configuration, step = histories.first_finds[(body, place, status)]
    steps = histories.search.steps_to(configuration)
    return _history_of(steps if step is None else steps + [step])


def judge_library(program, plan):
    """Return ("noticed", history) with the fewest calls and inputs that show the plan, or ("unnoticed", pairs)."""
    need_program(program)
    need_plan(program, plan)
    search = _compared(program, plan)
    if search is None:
        return "noticed", ([0], [])
    if search.goal is None:
        return "unnoticed", list(search.least)
    return "noticed", _history_of(search.steps_to(NOTICED))


def shows_library_unnoticed(program, plan, thing):
    """Tell whether thing is a list of all library pairs of a plan that is not noticed."""
    need_program(program)
    need_plan(program, plan)
    search = _compared(program, plan)
    return search is not None and search.goal is None and are_members(thing, search.least)


def _history_of(steps):
    if len(steps) > MOST_STEPS:
        raise TooLong("this takes too many calls and inputs")
    return [number for word, number in steps if word == CALL], [number for word, number in steps if word == TAKE]


def _compared(program, plan):
    """Return the Search of all library pairs up to one that is noticed; None if a unit ahead fails."""
    sides = Sides(program, plan)
    first = sides.idle(plan[0])
    if first is None:
        return None

    def follow(pair):
        if pair[0] == ():
            return [(sides.called(pair, function), (CALL, function)) for function in range(len(program[1]))]
        followings = sides.advanced(pair, [])
        return [(following, None if number is None else (TAKE, number)) for following, number in followings]

    search = Search()
    spread(search, [first], follow, NOTICED)
    return search


def _all_histories(program):
    """Return the Histories of the program, of which each part is found with the fewest calls and inputs."""
    histories = Histories(program)
    spread(histories.search, [((), ("asleep",) * len(program[0]))], histories.follow, None)
    return histories


def _configuration_of(execution):
    return execution.stack(), tuple(execution.statuses)


class Histories:
    """What all histories of a program come to, and how they come there."""

    def __init__(self, program):
        self.program = program
        self.model = Execution(program, ([], [], []))
        self.search = Search()
        self.first_finds = {}

    def follow(self, configuration):
        """Return the list of what follows the configuration, each with the step that is counted, or None."""
        stack, statuses = configuration
        followings = []
        if stack == ():
            for function in range(len(self.program[1])):
                execution = execution_at(self.model, stack, statuses, {})
                execution.begin(function)
                self.note(execution, configuration, (CALL, function))
                followings.append((_configuration_of(execution), (CALL, function)))
            return followings
        for number in (0, 1):
            execution = execution_at(self.model, stack, statuses, {})
            execution.advance([number], [])
            is_taken = execution.taken > 0
            followings.append((_configuration_of(execution), (TAKE, number) if is_taken else None))
            if not is_taken:
                # No access takes an input, so what is to be noted is noted here.
                self.note(execution, configuration, None)
                return followings
        return followings

    def note(self, execution, configuration, step):
        """Remember what the execution found by the step behind the configuration, if nothing shorter finds it."""
        many = self.search.least[configuration] + (0 if step is None else 1)
        for find in execution.finds:
            if find not in self.first_finds or many < self.first_finds[find][0]:
                self.first_finds[find] = (many, configuration, step)
