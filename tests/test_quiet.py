"""Quiet units and longest orders, compared with the trial of all moments and of all orders."""

import itertools
import unittest

from firstwake.errors import TooLong, TooMany
from firstwake.pairs import judge, longest, quiet
from firstwake.plain import full_run, woken_run
from tests.drawn import drawn_program
from tests.oracle import all_executions
from tests.pair_oracle import all_pairs, are_alike, watched
from tests.samples import FIRST, JUST_FEW, TOO_MANY, WOKEN, nested_calls, one_function

EMPTY = (None, 0, ())
HOLDS_7 = (None, 1, (("number", 0, 7), ("write", 1, 0, 0)))
FAILS = (None, 1, (("fail",),))
READS_1 = (None, 0, (("read", 0, 1, 0),))
MOST = 5


def is_told(program, inputs, unit, moment):
    """Tell whether the run with one access more at the moment is not alike the run."""
    one = watched(program, inputs, woken=(unit, moment))
    return not are_alike(one, watched(program, inputs))


def fewest(program, unit, most):
    """Return the fewest inputs, up to most, for which an access more at some moment is noticed, else None."""
    for inputs, execution in all_executions(program, most):
        if any(is_told(program, inputs, unit, moment) for moment in range(len(execution.path) + 1)):
            return len(inputs)
    return None


class Quiet(unittest.TestCase):
    def compare(self, program, unit, most=MOST):
        found, expected = quiet(program, unit), fewest(program, unit, most)
        with self.subTest(program=program, unit=unit):
            if found is None:
                self.assertIsNone(expected)
                return None
            inputs, moment = found
            self.assertTrue(len(inputs) == expected if expected is not None else len(inputs) > most)
            self.assertTrue(is_told(program, inputs, unit, moment))
            self.assertNotEqual(woken_run(program, inputs, unit, moment), full_run(program, inputs, ([], [], [])))
            return len(inputs), moment

    def test_drawn_programs(self):
        told = {}
        for seed in range(700):
            program = drawn_program("quiet", seed)
            for unit in range(len(program[0])):
                found = self.compare(program, unit)
                key = found if found is None else (found[0], found[1] > 0)
                told[key] = told.get(key, 0) + 1
        self.assertGreater(told[None], 500)
        for key, lowest in {(0, False): 100, (0, True): 1, (1, False): 1, (1, True): 2}.items():
            self.assertGreaterEqual(told.get(key, 0), lowest, (key, told))

    def test_at_the_first_moment(self):
        program = one_function([FIRST, (None, 1, ()), READS_1], ("write", 1, 0, 0), ("wake", 2, 2), ("show", 0))
        self.assertEqual(self.compare(program, 2), (0, 0))
        self.assertIsNone(self.compare(program, 1))

    def test_at_a_later_moment_alone(self):
        # Unit 2 is accessed first; only between the two writes another name would be seen.
        writer = (None, 0, (("write", 1, 0, 0),))
        program = one_function([FIRST, (None, 1, ()), READS_1, writer],
                               ("wake", 3, 1), ("show", 0), ("write", 1, 0, 0), ("show", 0), ("wake", 2, 5), ("show", 0))
        self.assertEqual(self.compare(program, 2)[0], 0)
        program = one_function([FIRST, (None, 1, ()), READS_1], ("branch", 2), ("wake", 2, 2), ("write", 1, 0, 0),
                               ("wake", 2, 4))
        self.assertEqual(self.compare(program, 2)[0], 1)
        self.assertNotEqual(quiet(program, 2)[0], [0])

    def test_it_is_seen_after_an_input(self):
        program = one_function([FIRST, (None, 1, ()), READS_1], ("write", 1, 0, 0), ("input", 0), ("wake", 2, 3))
        self.assertEqual(self.compare(program, 2), (1, 0))
        program = one_function([FIRST, (None, 1, ()), READS_1], ("branch", 3), ("input", 0), ("show", 0), ("write", 1, 0, 0),
                               ("input", 0), ("wake", 2, 6))
        self.assertEqual(self.compare(program, 2)[0], 2)

    def test_a_unit_that_fails(self):
        for code, found in [
            ((("show", 0),), (0, 0)), ((("input", 0),), (0, 0)), ((("fail",),), None), ((("read", 0, 1, 0),), None),
            ((("wake", 1, 1),), (0, 0)), ((("wake", 1, 1), ("show", 0)), (0, 0)),
        ]:
            self.assertEqual(self.compare(one_function([FIRST, FAILS], *code), 1), found)

    def test_before_an_instruction_that_waits_or_fails(self):
        # Nothing is noticed before the last instruction is come to.
        reader = (None, 0, (("read", 0, 1, 0),))
        for last, answer in [(("input", 0), (0, 1)), (("fail",), None), (("show", 0), (0, 1))]:
            program = one_function([FIRST, FAILS, reader], ("wake", 1, 1), last)
            self.assertEqual(self.compare(program, 2), (0, 0))
            program = one_function([FIRST, FAILS, reader], ("show", 0), ("wake", 1, 2), last)
            self.assertIsNone(quiet(one_function([FIRST, EMPTY], last), 1))
        program = one_function([FIRST, FAILS], ("fail",))
        self.assertIsNone(self.compare(program, 1))
        program = one_function([FIRST, FAILS], ("branch", 2), ("show", 0), ("fail",))
        self.assertEqual(self.compare(program, 1), (0, 0))

    def test_where_the_run_never_comes_to_an_instruction(self):
        program = ((FAILS, HOLDS_7), ((0, (("show", 0),)),))
        self.assertEqual([quiet(program, 0), quiet(program, 1)], [None, None])

    def test_units_that_are_awake_waking_or_broken(self):
        program = one_function([FIRST, FAILS, (0, 0, ())], ("wake", 1, 1), ("show", 0))
        self.assertIsNone(self.compare(program, 0))
        self.assertEqual(self.compare(program, 1), (0, 0))
        self.assertIsNone(self.compare(program, 2))
        # Behind its "wake" the unit is broken, and the access does nothing.
        self.assertEqual(woken_run(program, [], 1, 1), full_run(program, [], ([], [], [])))

    def test_the_moment_counts_instructions_through_all_functions(self):
        units = (FIRST, (None, 1, ()), READS_1)
        program = (units, ((0, (("wake", 1, 1), ("call", 1), ("wake", 2, 3))), (0, (("show", 0), ("write", 1, 0, 0)))))
        found = quiet(program, 2)
        self.assertEqual(self.compare(program, 2)[0], 0)
        self.assertIn(found[1], range(4))
        moments = [moment for moment in range(6) if is_told(program, [], 2, moment)]
        self.assertEqual(moments, [0, 1, 2, 3])

    def test_bounds(self):
        self.assertIsNone(quiet(JUST_FEW, 0))
        self.assertRaises(TooMany, quiet, TOO_MANY, 0)
        # One pair more comes of the access.
        program = (JUST_FEW[0] + (EMPTY,), JUST_FEW[1])
        self.assertRaises(TooMany, quiet, program, 1)
        noticed = (TOO_MANY[0] + (FAILS,), TOO_MANY[1])
        self.assertIn(quiet(noticed, 1), [([], moment) for moment in range(2001)])

    def test_pairs_that_are_counted(self):
        # 660 pairs before the access, and as many behind it that differ from them.
        codes = nested_calls([(("call", 1), 3)], [(("call", 2), 8)], [(("call", 3), 4)], [(("show", 0), 5)])[1]
        program = ((FIRST, EMPTY), codes)
        self.assertEqual(len(judge(program, ([], [], []))[1]), 3 * (1 + 8 * (1 + 4 * 6)))
        self.assertIsNone(quiet(program, 1))

    def test_more_than_a_hundred_inputs(self):
        codes = nested_calls([(("show", 0), 1)], [(("call", 2), 4)], [(("input", 0), 8)], [(("input", 0), 4)])[1]
        for last, many in [((("show", 0),), 96), ((("call", 3),), 100), ((("call", 3), ("input", 0)), 101)]:
            first = (("write", 1, 0, 0), ("call", 1), ("call", 1), ("call", 1), *last, ("wake", 2, 5 + len(last)))
            program = ((FIRST, (None, 1, ()), READS_1), ((0, first), *codes[1:]))
            if many > 100:
                self.assertRaises(TooLong, quiet, program, 2)
            else:
                inputs, moment = quiet(program, 2)
                self.assertEqual((len(inputs), moment), (many, 0))


class Longest(unittest.TestCase):
    def compare(self, program):
        """Compare longest with the trial of all orders; return its length."""
        found = longest(program)
        best = 0
        for many in range(len(program[0]) + 1):
            for order in itertools.permutations(range(len(program[0])), many):
                if judge(program, (list(order), [], []))[0] == "unnoticed":
                    best = many
        with self.subTest(program=program):
            self.assertEqual(len(found), best)
            self.assertEqual(all_pairs(program, (found, [], []), 4)[0], None)
            self.assertEqual((type(found), judge(program, (found, [], []))[0]), (list, "unnoticed"))
            self.assertEqual(len(set(found)), len(found))
        return best

    def test_drawn_programs(self):
        told = {}
        for seed in range(150):
            program = drawn_program("longest", seed, most_units=4)
            found = self.compare(program), len(program[0])
            told[found] = told.get(found, 0) + 1
        self.assertGreater(sum(many for (best, units), many in told.items() if 0 < best < units), 10)
        self.assertEqual({units for _, units in told}, {1, 2, 3, 4})

    def test_longer_orders_than_their_parts(self):
        self.assertEqual(self.compare(WOKEN), 4)
        found = longest(WOKEN)
        self.assertLess(found.index(2), found.index(3))

    def test_none(self):
        program = ((FAILS,), ((0, (("show", 0),)),))
        self.assertEqual(self.compare(program), 1)
        self.assertEqual(longest(one_function([FIRST, FAILS], ("show", 0))), [0])
        program = one_function([(None, 1, (("read", 0, 1, 0),)), (None, 1, ())], ("show", 0))
        self.assertEqual(self.compare(program), 2)

    def test_numbers_of_units(self):
        for many in range(1, 7):
            program = one_function([EMPTY] * many, ("show", 0))
            if many <= 4:
                self.assertEqual(sorted(longest(program)), list(range(many)))
            else:
                self.assertRaises(TooMany, longest, program)

    def test_too_many_pairs(self):
        self.assertEqual(longest(JUST_FEW), [0])
        self.assertRaises(TooMany, longest, TOO_MANY)


if __name__ == "__main__":
    unittest.main()
