import copy
import inspect
import unittest

from firstwake import (
    callers, checks, guards, histories, libraries, pairs, placements, plain, programs, reaches, schedules, threads, walks,
)
from firstwake.errors import NoProgram
from tests.samples import (
    BROKEN, EXAMPLES, GREATEST, LEAST, LIBRARY, LOCKED, NO_PROGRAMS, PLACED, RUN, SESSION, WOKEN, nodes,
)

PLAN = ([2, 0], [(("unit", 1), 0)], [(0, 0, 1)])
# Each function, its parameters in their order, and arguments for a call.
CALLS = [
    (programs.is_program, ["thing"], [GREATEST]),
    (programs.is_program, ["thing"], [list(GREATEST)]),
    (programs.is_program, ["thing"], [{"units": [], (): ()}]),
    (programs.is_inputs, ["thing"], [[0, 5, 65535]]),
    (programs.is_inputs, ["thing"], [[0, [5], {1: True}]]),
    (programs.is_plan, ["program", "thing"], [LOCKED, PLAN]),
    (programs.is_plan, ["program", "thing"], [LOCKED, ([2, 2], [], [[0, 0, 1]])]),
    (programs.accesses, ["program"], [GREATEST]),
    (reaches.reach, ["program", "unit"], [GREATEST, 2]),
    (reaches.chain, ["program", "unit", "other"], [GREATEST, 2, 5]),
    (reaches.chain, ["program", "unit", "other"], [GREATEST, 5, 2]),
    (reaches.loops, ["program"], [GREATEST]),
    (plain.run, ["program", "inputs"], [LIBRARY, [0, 5]]),
    (plain.full_run, ["program", "inputs", "plan"], [LOCKED, [0, 5], PLAN]),
    (plain.full_run, ["program", "inputs", "plan"], [BROKEN, [0], ([0], [(("function", 0), 1)], [(0, 1, 1)])]),
    (plain.woken_run, ["program", "inputs", "unit", "moment"], [WOKEN, [], 2, 1]),
    (walks.configurations, ["program"], [LIBRARY]),
    (walks.are_configurations, ["program", "thing"], [RUN, walks.configurations(RUN)]),
    (walks.are_configurations, ["program", "thing"], [RUN, {(((False, 0),), (), ()): [0, [True]]}]),
    (checks.statuses, ["program"], [LOCKED]),
    (checks.status_run, ["program", "body", "place", "status"], [BROKEN, ("function", 0), 1, "asleep"]),
    (checks.status_run, ["program", "body", "place", "status"], [BROKEN, ("function", 0), 1, "waking"]),
    (checks.early_reads, ["program"], [LOCKED]),
    (checks.early_run, ["program", "body", "place"], [LOCKED, ("unit", 2), 0]),
    (checks.needless, ["program"], [LOCKED]),
    (placements.placement, ["program", "function", "unit", "prices"], [PLACED, 0, 1, [5, 1, 1]]),
    (placements.is_placement, ["program", "function", "unit", "thing"], [PLACED, 0, 1, [1, 2]]),
    (placements.is_placement, ["program", "function", "unit", "thing"], [PLACED, 0, 1, [2, [1]]]),
    (placements.are_walks, ["program", "function", "unit", "prices", "thing"], [PLACED, 0, 1, [5, 1, 1], [([0, 1], 1)]]),
    (placements.are_walks, ["program", "function", "unit", "prices", "thing"], [PLACED, 0, 1, [5, 1, 1], [[[0], {}]]]),
    (placements.placed, ["program", "function", "unit", "places"], [PLACED, 0, 1, [0, 2]]),
    (pairs.judge, ["program", "plan"], [LOCKED, PLAN]),
    (pairs.judge, ["program", "plan"], [RUN, ([2], [(("unit", 2), 0)], [])]),
    (pairs.shows_unnoticed, ["program", "plan", "thing"], [RUN, ([2], [], []), pairs.judge(RUN, ([2], [], []))[1]]),
    (pairs.shows_unnoticed, ["program", "plan", "thing"], [RUN, ([2], [], []), [((), {}, [[True]])]]),
    (pairs.quiet, ["program", "unit"], [WOKEN, 2]),
    (pairs.quiet, ["program", "unit"], [WOKEN, 1]),
    (pairs.longest, ["program"], [WOKEN]),
    (threads.first_state, ["program", "starts", "ahead"], [LOCKED, (0, 1), [2]]),
    (threads.steps, ["program", "starts", "state"], [LOCKED, (0, 1), threads.first_state(LOCKED, (0, 1), [])]),
    (threads.state_after, ["program", "starts", "ahead", "schedule"], [LOCKED, (0, 1), [0], [(0, 0), (1, 0), (0, 0)]]),
    (schedules.deadlock, ["program", "starts", "ahead"], [LOCKED, (0, 1), []]),
    (schedules.deadlock, ["program", "starts", "ahead"], [LOCKED, (0, 1), [1]]),
    (schedules.deadlock, ["program", "starts", "ahead"], [BROKEN, (0,), [1]]),
    (schedules.shows_never, ["program", "starts", "ahead", "thing"],
     [LOCKED, (0, 1), [1], schedules.deadlock(LOCKED, (0, 1), [1])[1]]),
    (schedules.shows_never, ["program", "starts", "ahead", "thing"], [LOCKED, (0, 1), [], {(): [{}]}]),
    (schedules.cheapest, ["program", "starts", "prices"], [LOCKED, (0, 1), (0, 1, 5)]),
    (libraries.is_history, ["program", "thing"], [LIBRARY, ([0, 1], [5])]),
    (libraries.is_history, ["program", "thing"], [LIBRARY, ([0, [True]], {})]),
    (libraries.history_run, ["program", "history", "plan"], [LOCKED, ([0, 1, 0], [3]), PLAN]),
    (libraries.history_run, ["program", "history", "plan"], [SESSION, ([0, 0, 0], [3, 4]), ([0], [], [])]),
    (histories.library_configurations, ["program"], [LIBRARY]),
    (histories.are_library_configurations, ["program", "thing"], [SESSION, histories.library_configurations(SESSION)]),
    (histories.are_library_configurations, ["program", "thing"], [SESSION, {((), ("asleep",)): [0, {}]}]),
    (histories.library_statuses, ["program"], [LOCKED]),
    (histories.library_needless, ["program"], [LOCKED]),
    (histories.status_history, ["program", "body", "place", "status"], [LOCKED, ("function", 1), 0, "awake"]),
    (histories.status_history, ["program", "body", "place", "status"], [LOCKED, ("function", 1), 0, "broken"]),
    (histories.judge_library, ["program", "plan"], [LOCKED, PLAN]),
    (histories.judge_library, ["program", "plan"], [LIBRARY, ([], [(("function", 1), 0)], [])]),
    (histories.judge_library, ["program", "plan"], [BROKEN, ([1], [], [])]),
    (histories.shows_library_unnoticed, ["program", "plan", "thing"],
     [RUN, ([2], [], []), histories.judge_library(RUN, ([2], [], []))[1]]),
    (histories.shows_library_unnoticed, ["program", "plan", "thing"], [RUN, ([2], [], []), [((), {}, [[True]])]]),
    (callers.caller_state, ["program", "callers", "ahead"], [LOCKED, (0, "open"), [2]]),
    (callers.caller_steps, ["program", "callers", "unchecked", "state"],
     [LOCKED, (0, "open"), [(("function", 0), 0)], callers.caller_state(LOCKED, (0, "open"), [])]),
    (guards.caller_finds, ["program", "callers", "ahead"], [LOCKED, (0, "open"), [0]]),
    (guards.caller_finds, ["program", "callers", "ahead"], [BROKEN, (0, "open"), [1]]),
    (guards.spared, ["program", "callers", "ahead"], [LOCKED, (0, "open"), [1]]),
    (guards.find_schedule, ["program", "callers", "ahead", "body", "place", "word"],
     [LOCKED, (0, "open"), [0], ("function", 1), 0, "other"]),
    (guards.find_schedule, ["program", "callers", "ahead", "body", "place", "word"],
     [LOCKED, (0, "open"), [0], ("function", 1), 0, "broken"]),
    (guards.cycle_schedule, ["program", "callers", "ahead"], [LOCKED, (0, "open"), [0]]),
    (guards.half, ["program", "callers", "ahead", "unchecked"], [LOCKED, (0, "open"), [0], [(("function", 1), 0)]]),
    (guards.half, ["program", "callers", "ahead", "unchecked"], [LOCKED, (0, "open"), [1], [(("function", 1), 0)]]),
    (guards.shows_no_half, ["program", "callers", "ahead", "unchecked", "thing"],
     [LOCKED, (0, "open"), [1], [(("function", 1), 0)], guards.half(LOCKED, (0, "open"), [1], [(("function", 1), 0)])[1]]),
    (guards.shows_no_half, ["program", "callers", "ahead", "unchecked", "thing"], [LOCKED, (0, "open"), [1], [], {(): [{}]}]),
    (guards.guard, ["program", "callers", "accesses", "prices"], [LOCKED, (0, 1), [(("unit", 2), 0)], (0, 1, 5)]),
]
MODULES = {
    programs: ["is_program", "is_inputs", "is_plan", "accesses"],
    reaches: ["reach", "chain", "loops"],
    plain: ["run", "full_run", "woken_run"],
    walks: ["configurations", "are_configurations"],
    checks: ["statuses", "status_run", "early_reads", "early_run", "needless"],
    placements: ["placement", "is_placement", "are_walks", "placed"],
    pairs: ["judge", "shows_unnoticed", "quiet", "longest"],
    threads: ["first_state", "steps", "state_after"],
    schedules: ["deadlock", "shows_never", "cheapest"],
    libraries: ["is_history", "history_run"],
    histories: [
        "library_configurations", "are_library_configurations", "library_statuses", "library_needless", "status_history",
        "judge_library", "shows_library_unnoticed",
    ],
    callers: ["caller_state", "caller_steps"],
    guards: ["caller_finds", "spared", "find_schedule", "cycle_schedule", "half", "shows_no_half", "guard"],
}


def members(thing):
    """Return the list of all lists and dicts in thing, itself included."""
    found = [thing] if isinstance(thing, (list, dict)) else []
    if isinstance(thing, (list, tuple)):
        return found + [one for part in thing for one in members(part)]
    if isinstance(thing, dict):
        return found + [one for part in thing.values() for one in members(part)]
    return found


class Calls(unittest.TestCase):
    def test_names_of_the_parameters(self):
        for function, names, _ in CALLS:
            with self.subTest(function.__name__):
                self.assertEqual(list(inspect.signature(function).parameters), names)

    def test_each_is_defined_in_its_module(self):
        for module, names in MODULES.items():
            for name in names:
                self.assertEqual(getattr(module, name).__module__, module.__name__)
        self.assertEqual({function for function, _, _ in CALLS},
                         {getattr(module, name) for module, names in MODULES.items() for name in names})

    def test_calls_by_names_return_what_calls_by_places_return(self):
        for function, names, values in CALLS:
            named = dict(zip(names, values))
            backwards = dict(reversed(named.items()))
            with self.subTest(function.__name__):
                expected = function(*values)
                self.assertEqual(function(**named), expected)
                self.assertEqual(function(**backwards), expected)
                self.assertEqual(function(values[0], **{name: named[name] for name in names[1:]}), expected)

    def test_equal_calls_return_equal_results(self):
        for function, _, values in CALLS:
            first = function(*copy.deepcopy(values))
            second = function(*copy.deepcopy(values))
            self.assertEqual((type(first), first), (type(second), second))

    def test_no_call_changes_its_arguments(self):
        for function, _, values in CALLS:
            kept = copy.deepcopy(values)
            function(*values)
            with self.subTest(function.__name__):
                self.assertEqual(values, kept)
                self.assertEqual(repr(values), repr(kept))

    def test_later_changes_of_arguments_mean_nothing(self):
        inputs = [0]
        self.assertIs(programs.is_inputs(inputs), True)
        inputs.append(True)
        self.assertIs(programs.is_inputs(inputs), False)

    def test_changed_arguments_are_passed_again(self):
        inputs, plan = [], ([], [], [])
        found = [plain.full_run(RUN, inputs, plan)]
        plan[1].append((("unit", 2), 0))
        found.append(plain.full_run(RUN, inputs, plan))
        plan[0].append(2)
        found.append(plain.full_run(RUN, inputs, plan))
        self.assertEqual([one[1] for one in found], [[7], [7], [0]])
        prices = [5, 1, 1]
        self.assertEqual(placements.placement(PLACED, 0, 1, prices)[0], 2)
        prices[0] = 1
        self.assertEqual(placements.placement(PLACED, 0, 1, prices)[0], 1)
        ahead = []
        self.assertEqual(schedules.deadlock(LOCKED, (0, 1), ahead)[0], "deadlock")
        ahead.append(1)
        self.assertEqual(schedules.deadlock(LOCKED, (0, 1), ahead)[0], "never")
        schedule = [(0, 0)]
        found = [threads.state_after(LOCKED, (0, 1), ahead, schedule)]
        schedule.append((0, 0))
        found.append(threads.state_after(LOCKED, (0, 1), ahead, schedule))
        self.assertEqual([statuses[0] for statuses, _ in found], ["held 0", "awake"])
        history = ([0], [])
        found = [libraries.history_run(SESSION, history, ([], [], []))]
        history[1].append(5)
        history[0].append(0)
        found.append(libraries.history_run(SESSION, history, ([], [], [])))
        self.assertEqual([one[0] for one in found], [["waits"], ["done", "waits"]])
        unchecked = []
        self.assertEqual(guards.half(LOCKED, (0, 1), [], unchecked)[0], "never")
        unchecked.append((("unit", 2), 0))
        self.assertEqual(guards.half(LOCKED, (0, 1), [], unchecked)[0], "half")
        thing = walks.configurations(RUN)
        self.assertIs(walks.are_configurations(RUN, thing), True)
        thing.popitem()
        self.assertIs(walks.are_configurations(RUN, thing), False)

    def test_arguments_are_not_kept_in_what_is_returned(self):
        for function, _, values in CALLS:
            passed = {id(one) for one in members(values)}
            self.assertEqual([one for one in members(function(*values)) if id(one) in passed], [])

    def test_lists_and_dicts_that_are_returned_are_new(self):
        for function, _, values in CALLS:
            first, second = function(*values), function(*values)
            found = members(first) + members(second)
            self.assertEqual(len({id(one) for one in found}), len(found))
            for one in members(first):
                one.clear()
            self.assertEqual(function(*values), second)

    def test_what_is_returned_is_of_plain_kinds(self):
        for function, _, values in CALLS:
            for _, part in nodes(function(*values)):
                self.assertIn(type(part), [int, str, bool, type(None), list, tuple, dict])

    def test_truth_is_told_by_true_and_false(self):
        for thing in [LEAST, None, [], [0], [-1], GREATEST]:
            self.assertIn(programs.is_program(thing), [True, False])
            self.assertIs(type(programs.is_program(thing)), bool)
            self.assertIs(type(programs.is_inputs(thing)), bool)
            self.assertIs(type(programs.is_plan(LEAST, thing)), bool)

    def test_no_program(self):
        for program in NO_PROGRAMS:
            for function, names, values in CALLS:
                if names[0] == "program":
                    with self.subTest(function.__name__, program=program):
                        with self.assertRaises(NoProgram) as caught:
                            function(program, *values[1:])
                        self.assertIs(type(caught.exception), NoProgram)
                        self.assertTrue(str(caught.exception))

    def test_programs_of_the_examples(self):
        found = [(len(programs.accesses(program)), reaches.loops(program)) for program in EXAMPLES]
        self.assertEqual(found, [(5, ()), (1, ()), (2, ()), (5, ()), (4, (1, 2)), (4, ()), (0, ())])


if __name__ == "__main__":
    unittest.main()
