"""Runs in which a unit is accessed once more at a moment."""

import unittest

from firstwake.plain import full_run, woken_run
from tests.samples import FIRST, one_function

NOTHING = ([], [], [])
HOLDS_7 = (None, 1, (("number", 0, 7), ("write", 1, 0, 0)))
FAILS = (None, 1, (("fail",),))


class WokenRuns(unittest.TestCase):
    def assert_as_run(self, program, inputs, unit, moments):
        for moment in moments:
            with self.subTest(unit=unit, moment=moment):
                self.assertEqual(woken_run(program, inputs, unit, moment), full_run(program, inputs, NOTHING))

    def test_all_moments_of_a_run(self):
        program = one_function([FIRST, HOLDS_7], ("show", 0), ("write", 1, 0, 0), ("branch", 0), ("read", 0, 1, 0))
        inputs = [1, 0]
        path = [(0, 0), (0, 1), (0, 2), (0, 0), (0, 1), (0, 2), (0, 3)]
        for moment in range(8):
            found = woken_run(program, inputs, 1, moment)
            self.assertEqual(found[:2], ("done", [0, 0]))
            self.assertEqual((found[2], found[5]), (path, [(0, 0), (1, min(moment, 1))]))
        self.assert_as_run(program, inputs, 1, [1, 2, 3, 4, 5, 6, 7, 8, 100, 10 ** 20])
        self.assert_as_run(program, inputs, 0, range(9))

    def test_it_is_seen_where_the_unit_is_used_later(self):
        program = one_function([FIRST, (None, 1, ()), (None, 1, (("read", 0, 1, 0), ("write", 2, 0, 0)))],
                               ("number", 0, 9), ("write", 1, 0, 0), ("read", 0, 2, 0), ("show", 0))
        self.assertEqual([woken_run(program, [], 2, moment)[1] for moment in range(6)], [[0], [0], [9], [9], [9], [9]])
        self.assertEqual([woken_run(program, [], 2, moment)[4] for moment in range(3)],
                         [{(2, 0): None}, {(2, 0): None}, {(2, 0): (("function", 0), 1, 0)}])

    def test_the_statuses_before_it_are_found(self):
        program = one_function([FIRST, HOLDS_7], ("read", 0, 1, 0), ("read", 0, 1, 0))
        for moment, first in [(0, "asleep"), (1, "asleep")]:
            found = woken_run(program, [], 1, moment)
            self.assertEqual(found[6], [(("function", 0), 0, first), (("unit", 1), 1, "waking"), (("function", 0), 1, "awake")])

    def test_before_an_instruction_that_waits(self):
        for word in ["input", "branch"]:
            program = one_function([FIRST, HOLDS_7, FAILS], ("show", 0), (word, 2), ("show", 0))
            self.assertEqual(woken_run(program, [], 1, 1), (
                "waits", [0], [(0, 0)], [], {}, [(0, 0), (1, 1)], [(("unit", 1), 1, "waking")]))
            self.assertEqual(woken_run(program, [], 2, 1), ("failed", [0], [(0, 0)], [], {}, [(0, 0), (2, 1)], []))
            self.assert_as_run(program, [], 1, [2, 3, 4])
            self.assertEqual(woken_run(program, [5], 1, 1)[5], [(0, 0), (1, 1)])

    def test_before_an_instruction_that_fails(self):
        program = one_function([FIRST, HOLDS_7, FAILS], ("show", 0), ("fail",))
        self.assertEqual(woken_run(program, [], 1, 1), (
            "failed", [0], [(0, 0)], [], {}, [(0, 0), (1, 1)], [(("unit", 1), 1, "waking")]))
        self.assert_as_run(program, [], 1, [2, 3])
        program = one_function([FIRST, HOLDS_7, FAILS], ("show", 0), ("read", 0, 2, 0))
        self.assertEqual(woken_run(program, [], 1, 1), (
            "failed", [0], [(0, 0)], [], {}, [(0, 0), (1, 1), (2, 1)],
            [(("function", 0), 1, "asleep"), (("unit", 1), 1, "waking")]))
        self.assert_as_run(program, [], 1, [2, 3])

    def test_behind_the_end(self):
        program = one_function([FIRST, HOLDS_7], ("show", 0))
        self.assertEqual(woken_run(program, [], 1, 0)[5], [(0, 0), (1, 0)])
        self.assert_as_run(program, [], 1, [1, 2])

    def test_where_functions_return(self):
        # At moment 2 the called function has returned, and the instruction behind the call comes next.
        program = ((FIRST, HOLDS_7), ((0, (("call", 1), ("show", 0))), (0, (("show", 0),))))
        found = [woken_run(program, [], 1, moment) for moment in range(4)]
        self.assertEqual([one[2] for one in found], [[(0, 0), (1, 0), (0, 1)]] * 4)
        self.assertEqual([one[5] for one in found], [[(0, 0), (1, 0)], [(0, 0), (1, 1)], [(0, 0), (1, 2)], [(0, 0)]])
        program = ((FIRST, HOLDS_7), ((0, (("show", 0), ("call", 1))), (0, (("show", 0),))))
        self.assert_as_run(program, [], 1, [3, 4])

    def test_a_run_whose_first_access_fails(self):
        program = ((FAILS, HOLDS_7), ((0, (("show", 0),)),))
        self.assert_as_run(program, [], 1, [0, 1])
        self.assert_as_run(program, [], 0, [0, 1])

    def test_a_unit_that_is_broken(self):
        program = one_function([FIRST, FAILS, (1, 0, ())], ("wake", 1, 1), ("show", 0), ("input", 0))
        self.assert_as_run(program, [], 1, [1, 2, 3])
        self.assertEqual(woken_run(program, [], 1, 0)[:3], ("failed", [], []))
        self.assertEqual(woken_run(program, [], 2, 1), (
            "failed", [], [(0, 0)], [], {}, [(0, 0), (1, 0), (2, 1)], [(("function", 0), 0, "asleep")]))

    def test_at_a_wake(self):
        program = one_function([FIRST, FAILS, HOLDS_7[:2] + ((),)], ("wake", 1, 1), ("wake", 2, 2), ("show", 0))
        self.assertEqual(woken_run(program, [], 2, 0)[5], [(0, 0), (2, 0), (1, 0)])
        self.assertEqual(woken_run(program, [], 1, 0)[6], [(("function", 0), 0, "asleep")])
        self.assert_as_run(program, [], 2, [1, 2, 3])

    def test_it_is_accessed_at_that_moment_alone(self):
        program = one_function([FIRST, HOLDS_7, (None, 1, ())], ("branch", 0), ("show", 0))
        self.assertEqual(woken_run(program, [1, 1, 0], 1, 2)[5], [(0, 0), (1, 2)])
        self.assertEqual(woken_run(program, [1, 1, 0], 2, 3)[5], [(0, 0), (2, 3)])

    def test_great_moments_and_the_last_one(self):
        program = one_function([FIRST, HOLDS_7], ("branch", 0))
        self.assertEqual(woken_run(program, [1] * 100, 1, 100)[5], [(0, 0), (1, 100)])
        self.assert_as_run(program, [1] * 100, 1, [101, 65536])


if __name__ == "__main__":
    unittest.main()
