import copy
import inspect
import unittest

from firstwake import programs, reaches
from firstwake.errors import NoProgram
from tests.samples import EXAMPLES, GREATEST, LEAST, LOCKED, NO_PROGRAMS

PLAN = ([2, 0], [(("unit", 1), 0)], [(0, 0, 1)])
# Each function, its parameters in their order, and arguments for a call.
CALLS = [
    (programs.is_program, ["thing"], [GREATEST]),
    (programs.is_program, ["thing"], [list(GREATEST)]),
    (programs.is_program, ["thing"], [{"units": [], (): ()}]),
    (programs.is_inputs, ["thing"], [[0, 5, 65535]]),
    (programs.is_inputs, ["thing"], [[0, [5], {1: True}]]),
    (programs.is_plan, ["program", "thing"], [LOCKED, PLAN]),
    (programs.is_plan, ["program", "thing"], [LOCKED, ([2, 2], [], [[0, 0, 1]])]),
    (programs.accesses, ["program"], [GREATEST]),
    (reaches.reach, ["program", "unit"], [GREATEST, 2]),
    (reaches.chain, ["program", "unit", "other"], [GREATEST, 2, 5]),
    (reaches.chain, ["program", "unit", "other"], [GREATEST, 5, 2]),
    (reaches.loops, ["program"], [GREATEST]),
]


class Calls(unittest.TestCase):
    def test_names_of_the_parameters(self):
        for function, names, _ in CALLS:
            with self.subTest(function.__name__):
                self.assertEqual(list(inspect.signature(function).parameters), names)

    def test_each_is_defined_in_its_module(self):
        for function, _, _ in CALLS:
            module = reaches if function.__name__ in ("reach", "chain", "loops") else programs
            self.assertEqual(function.__module__, module.__name__)

    def test_calls_by_names_return_what_calls_by_places_return(self):
        for function, names, values in CALLS:
            named = dict(zip(names, values))
            backwards = dict(reversed(named.items()))
            with self.subTest(function.__name__):
                expected = function(*values)
                self.assertEqual(function(**named), expected)
                self.assertEqual(function(**backwards), expected)
                self.assertEqual(function(values[0], **{name: named[name] for name in names[1:]}), expected)

    def test_equal_calls_return_equal_results(self):
        for function, _, values in CALLS:
            first = function(*copy.deepcopy(values))
            second = function(*copy.deepcopy(values))
            self.assertEqual((type(first), first), (type(second), second))

    def test_no_call_changes_its_arguments(self):
        for function, _, values in CALLS:
            kept = copy.deepcopy(values)
            function(*values)
            with self.subTest(function.__name__):
                self.assertEqual(values, kept)
                self.assertEqual(repr(values), repr(kept))

    def test_later_changes_of_arguments_mean_nothing(self):
        inputs = [0]
        self.assertIs(programs.is_inputs(inputs), True)
        inputs.append(True)
        self.assertIs(programs.is_inputs(inputs), False)

    def test_lists_that_are_returned_are_new(self):
        for function, _, values in CALLS:
            first, second = function(*values), function(*values)
            if isinstance(first, list):
                self.assertIsNot(first, second)
                first.append(None)
                self.assertEqual(function(*values), second)

    def test_truth_is_told_by_true_and_false(self):
        for thing in [LEAST, None, [], [0], [-1], GREATEST]:
            self.assertIn(programs.is_program(thing), [True, False])
            self.assertIs(type(programs.is_program(thing)), bool)
            self.assertIs(type(programs.is_inputs(thing)), bool)
            self.assertIs(type(programs.is_plan(LEAST, thing)), bool)

    def test_no_program(self):
        for program in NO_PROGRAMS:
            for function, names, values in CALLS:
                if names[0] == "program":
                    with self.subTest(function.__name__, program=program):
                        with self.assertRaises(NoProgram) as caught:
                            function(program, *values[1:])
                        self.assertIs(type(caught.exception), NoProgram)
                        self.assertTrue(str(caught.exception))

    def test_programs_of_the_examples(self):
        found = [(len(programs.accesses(program)), reaches.loops(program)) for program in EXAMPLES]
        self.assertEqual(found, [(5, ()), (1, ()), (2, ()), (5, ()), (4, (1, 2)), (4, ()), (0, ())])


if __name__ == "__main__":
    unittest.main()
