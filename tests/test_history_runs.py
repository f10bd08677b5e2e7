"""Histories executed at once: is_history and history_run, by single rules and against the oracle on drawn programs."""

import random
import unittest

from firstwake.libraries import history_run, is_history
from firstwake.plain import full_run
from tests.drawn import drawn_inputs, drawn_plan, drawn_program
from tests.history_oracle import run_history
from tests.samples import FIRST, LIBRARY, OTHER_KINDS, SESSION

NOTHING = ([], [], [])
EMPTY = (None, 0, ())
HOLDS_7 = (None, 1, (("number", 0, 7), ("write", 1, 0, 0)))
FAILS = (None, 1, (("fail",),))
NAMES = ["ends", "output", "path", "seen", "own", "order", "finds"]


def records(program, calls, inputs=(), plan=((), (), ())):
    found = history_run(program, (list(calls), list(inputs)), tuple(map(list, plan)))
    return dict(zip(NAMES, found, strict=True))


class IsHistory(unittest.TestCase):
    def test_what_is_one(self):
        for thing in [([], []), ([0], []), ([1, 0, 1], [0, 65535]), ([0] * 100, [5] * 100), ([], [1])]:
            self.assertIs(is_history(LIBRARY, thing), True)

    def test_what_is_none(self):
        for thing in [
            *OTHER_KINDS, ([0] * 101, []), ([], [0] * 101), ([2], []), ([-1], []), ([True], []), ([0], [False]), ([0], [65536]),
            ([0], [-1]), ((0,), []), ([0], ()), [[0], []], ([0],), ([0], [], []), ([None], []), (["0"], []), ([0], ["0"]),
            ([[0]], []), ({0: 0}, []), ([0], {}), ([10 ** 20], []), None, (None, None), ([0], [10 ** 20]),
        ]:
            with self.subTest(thing=thing):
                self.assertIs(is_history(LIBRARY, thing), False)
        self.assertIs(is_history(SESSION, ([1], [])), False)


class Rules(unittest.TestCase):
    def test_no_calls(self):
        program = ((FIRST, HOLDS_7, FAILS), ((0, (("show", 0),)),))
        self.assertEqual(history_run(program, ([], []), NOTHING), ([], [], [], [], {}, [], []))
        self.assertEqual(history_run(program, ([], [5]), NOTHING), ([], [], [], [], {}, [], []))
        self.assertEqual(history_run(program, ([], []), ([1], [], [])), (
            [], [], [], [], {}, [(1, -1)], [(("unit", 1), 1, "waking")]))
        self.assertEqual(history_run(program, ([], []), ([1, 2], [], []))[5], [(1, -1), (2, -1)])

    def test_one_call(self):
        self.assertEqual(history_run(SESSION, ([0], [5, 6]), NOTHING), (
            ["done"], [5], [[(0, 0), (0, 1)]], [], {}, [(0, 0)], []))

    def test_a_unit_ahead_that_fails(self):
        program = ((FIRST, HOLDS_7, FAILS), ((0, (("show", 0),)),))
        for calls in [[], [0], [0, 0]]:
            found = records(program, calls, [], ([1, 2, 0], [], []))
            self.assertEqual((found["ends"], found["path"], found["order"]), ([], [], [(1, -1), (2, -1)]))

    def test_statuses_and_numbers_are_kept(self):
        program = ((FIRST, HOLDS_7), ((0, (("read", 0, 1, 0), ("show", 0), ("add", 0, 1), ("write", 1, 0, 0))),))
        found = records(program, [0, 0, 0])
        self.assertEqual((found["ends"], found["output"]), (["done"] * 3, [7, 8, 9]))
        self.assertEqual(found["path"], [[(0, place) for place in range(4)]] * 3)
        self.assertEqual(found["seen"], [(("unit", 1), 1, 0), (("function", 0), 3, 0), (("function", 0), 3, 1)])
        self.assertEqual(found["order"], [(0, 0), (1, 0)])
        self.assertEqual([status for _, _, status in found["finds"]], ["asleep", "waking"] + ["awake"] * 5)

    def test_frames_are_new(self):
        program = ((FIRST,), ((0, (("show", 0), ("number", 0, 5), ("show", 0))),))
        self.assertEqual(records(program, [0, 0])["output"], [0, 5, 0, 5])

    def test_inputs_go_from_call_to_call(self):
        found = records(SESSION, [0, 0, 0], [4, 5])
        self.assertEqual((found["ends"], found["output"]), (["done", "done", "waits"], [4, 5]))
        self.assertEqual(found["path"], [[(0, 0), (0, 1)]] * 2 + [[]])

    def test_after_a_call_that_waits_none_is_begun(self):
        program = ((FIRST, HOLDS_7), ((0, (("show", 0), ("input", 0))), (1, (("show", 0),))))
        found = records(program, [1, 0, 1, 0])
        self.assertEqual((found["ends"], found["path"]), (["done", "waits"], [[(1, 0)], [(0, 0)]]))
        self.assertEqual(found["order"], [(1, 0), (0, 1)])
        self.assertEqual(records(program, [0, 1, 0], [1])["ends"], ["done", "done", "waits"])

    def test_a_call_whose_first_access_fails(self):
        program = ((FIRST, FAILS, (1, 0, ())), ((2, (("show", 0),)), (0, (("show", 0), ("wake", 1, 2)))))
        found = records(program, [1, 0, 1, 0])
        self.assertEqual((found["ends"], found["output"]), (["done", "failed", "done", "failed"], [0, 0]))
        self.assertEqual(found["path"], [[(1, 0), (1, 1)], [], [(1, 0), (1, 1)], []])
        self.assertEqual(found["order"], [(0, 0), (1, 1), (2, 2)])
        self.assertEqual(records(program, [0])["order"], [(2, 0), (1, 0)])

    def test_later_calls_go_on_with_what_a_failed_one_left(self):
        program = ((FIRST, HOLDS_7, FAILS), (
            (0, (("number", 0, 3), ("write", 1, 0, 0), ("call", 1))), (0, (("show", 0), ("read", 0, 2, 0))),
            (1, (("read", 0, 1, 0), ("show", 0), ("fail",))),
        ))
        found = records(program, [0, 2, 0, 2])
        self.assertEqual((found["ends"], found["output"]), (["failed"] * 4, [0, 3, 0, 3]))
        self.assertEqual(found["path"], [[(0, 0), (0, 1), (0, 2), (1, 0)], [(2, 0), (2, 1)]] * 2)
        self.assertEqual(found["seen"], [(("function", 0), 1, 0), (("function", 0), 1, 1)])
        self.assertEqual(found["finds"][-2:], [(("function", 1), 1, "broken"), (("function", 2), 0, "awake")])

    def test_moments_and_names_are_counted_through_all_calls(self):
        program = ((FIRST, (None, 1, ()), (None, 0, (("read", 0, 1, 0),))),
                   ((0, (("write", 1, 0, 0), ("write", 1, 0, 0))), (2, (("read", 0, 1, 0),))))
        found = records(program, [0, 0, 1])
        self.assertEqual((found["order"], found["own"]), ([(0, 0), (1, 0), (2, 4)], {(2, 0): (("function", 0), 1, 1)}))
        self.assertEqual(found["seen"], [(("function", 0), 1, 1)])

    def test_units_ahead_are_accessed_once(self):
        program = ((FIRST, HOLDS_7), ((0, (("read", 0, 1, 0), ("write", 1, 0, 0))),))
        found = records(program, [0, 0], [], ([1], [], []))
        self.assertEqual((found["order"], found["seen"]), ([(1, -1), (0, 0)], [(("unit", 1), 1, 0), (("function", 0), 1, 0)]))

    def test_plans_in_all_calls(self):
        program = ((FIRST, HOLDS_7), ((0, (("read", 0, 1, 0), ("show", 0))), (0, (("show", 1), ("show", 2)))))
        found = records(program, [0, 1, 0], [], ([], [(("function", 0), 0)], [(1, 1, 1)]))
        self.assertEqual((found["output"], found["order"]), ([0, 0, 0, 7], [(0, 0), (1, 3)]))
        self.assertEqual(found["seen"], [None, (("unit", 1), 1, 0)])

    def test_a_hundred_calls(self):
        found = records(SESSION, [0] * 100, range(100))
        self.assertEqual((found["ends"], found["output"]), (["done"] * 100, list(range(100))))
        self.assertEqual(len(records(SESSION, [0] * 100, range(99))["ends"]), 100)
        self.assertEqual(len(records(SESSION, [0] * 100, range(98))["ends"]), 99)

    def test_a_run_is_a_history_of_one_call(self):
        for seed in range(300):
            program, inputs = drawn_program("one call", seed), drawn_inputs("one call", seed)
            plan = drawn_plan(program, "one call", seed)
            end, *rest = full_run(program, inputs, plan)
            found = history_run(program, ([0], inputs), plan)
            # Without a call begun a unit ahead has failed.
            if found[0]:
                self.assertEqual(found, ([end], rest[0], [rest[1]], *rest[2:]))


class Drawn(unittest.TestCase):
    def test_as_the_oracle(self):
        ends = {}
        for seed in range(1500):
            program = drawn_program("histories", seed)
            dice = random.Random(repr(("histories", seed)))
            calls = [dice.randrange(len(program[1])) for _ in range(dice.choice([0, 1, 2, 3, 5, 8]))]
            inputs = drawn_inputs("histories", seed)
            for plan in [NOTHING, drawn_plan(program, "histories", seed)]:
                with self.subTest(program=program, calls=calls, inputs=inputs, plan=plan):
                    found = history_run(program, (calls, inputs), plan)
                    self.assertEqual(found, run_history(program, (calls, inputs), plan).records())
                for at, end in enumerate(found[0]):
                    ends[end, at > 0] = ends.get((end, at > 0), 0) + 1
        self.assertEqual(len(ends), 6)
        self.assertGreater(min(ends.values()), 100)

    def test_first_calls_do_what_they_do_alone(self):
        for seed in range(300):
            program, inputs = drawn_program("first calls", seed), drawn_inputs("first calls", seed)
            dice = random.Random(repr(("first calls", seed)))
            calls = [dice.randrange(len(program[1])) for _ in range(5)]
            plan = drawn_plan(program, "first calls", seed)
            whole = history_run(program, (calls, inputs), plan)
            for many in range(6):
                part = history_run(program, (calls[:many], inputs), plan)
                for mine, its in zip(whole, part):
                    if isinstance(mine, list):
                        self.assertEqual(mine[:len(its)], its)
                    else:
                        self.assertLessEqual(its.items(), mine.items())


if __name__ == "__main__":
    unittest.main()
