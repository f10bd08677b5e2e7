"""Statuses, early reads and needless checks, compared with what the oracle finds with all inputs of 0 and 1."""

import unittest

from firstwake.checks import early_reads, early_run, needless, status_run, statuses
from firstwake.errors import TooLong, TooMany
from firstwake.plain import full_run
from firstwake.programs import accesses, is_inputs
from tests.drawn import drawn_program
from tests.oracle import all_executions, execute
from tests.samples import BROKEN, EXAMPLES, FIRST, JUST_FEW, LOCKED, RUN, TOO_MANY, WOKEN, nested_calls, one_function

STATUSES = ["asleep", "awake", "broken", "waking"]
FAILS = (None, 1, (("fail",),))


def brute(program, most):
    """Return the dicts of what is found and of what is early to the fewest inputs, up to so many, of a run with it."""
    finds, early = {}, {}
    for inputs, execution in all_executions(program, most):
        for find in execution.finds:
            finds.setdefault(find, len(inputs))
        for access in execution.early:
            early.setdefault(access, len(inputs))
    return finds, early


def asks_for(word):
    """Return a function that tells whether the access of a program is by the word."""
    def is_one(program, access):
        (kind, number), place = access
        return program[0 if kind == "unit" else 1][number][-1][place][0] == word
    return is_one


is_wake = asks_for("wake")
is_read = asks_for("read")


def hundred(code):
    """Return functions of which the last three, called by number 1, take 96 inputs."""
    codes = [code, [(("call", 2), 1), (("call", 3), 4)], [(("call", 3), 8)], [(("input", 0), 8)]]
    return nested_calls(*codes)[1]


class Statuses(unittest.TestCase):
    def test_of_the_examples(self):
        one, two = ("unit", 1), ("unit", 2)
        function = ("function", 0)
        self.assertEqual(statuses(RUN), {
            (function, 0): ("asleep",), (function, 1): ("asleep",), (one, 1): ("waking",), (two, 0): ("awake",),
            (two, 1): ("waking",)})
        self.assertEqual(statuses(BROKEN), {(function, 1): ("asleep",)})
        self.assertEqual(statuses(WOKEN), {
            (function, 0): ("asleep",), (function, 1): ("asleep",), (function, 2): ("asleep",), (two, 0): ("awake",),
            (("unit", 3), 0): ("awake",)})
        self.assertEqual(statuses(LOCKED), {(function, 0): ("asleep",), (one, 0): ("asleep",), (two, 0): ("waking",)})

    def test_several_statuses_ascending(self):
        units = [FIRST, FAILS, (None, 1, (("read", 0, 3, 0),)), (None, 1, (("read", 0, 2, 0), ("read", 0, 3, 0)))]
        code = [("branch", 3), ("wake", 1, 2), ("wake", 2, 3), ("wake", 1, 4), ("read", 0, 3, 0), ("branch", 3)]
        found = statuses(one_function(units, *code))
        self.assertEqual(found[(("function", 0), 3)], ("asleep", "broken"))
        self.assertEqual(found[(("function", 0), 4)], ("asleep", "awake"))
        self.assertEqual(found[(("unit", 2), 0)], ("asleep", "waking"))
        self.assertEqual(found[(("unit", 3), 0)], ("asleep", "waking"))
        self.assertEqual(found[(("function", 0), 1)], ("asleep",))

    def test_in_initializers_by_the_order_of_wakings(self):
        # Unit 1 is asleep or broken when unit 3 uses it; units 2 and 3 use each other.
        units = [FIRST, FAILS, (None, 1, (("write", 3, 0, 0),)), (None, 1, (("read", 0, 2, 0), ("read", 0, 1, 0)))]
        program = one_function(units, ("branch", 2), ("wake", 1, 2), ("branch", 4), ("wake", 2, 4), ("wake", 3, 5))
        found = statuses(program)
        self.assertEqual(found[(("unit", 3), 0)], ("asleep", "waking"))
        self.assertEqual(found[(("unit", 3), 1)], ("asleep", "broken"))
        self.assertEqual(found[(("unit", 2), 0)], ("asleep", "waking"))
        for place, status, is_one in [(0, "asleep", [None, True]), (0, "waking", [None, False]),
                                      (1, "asleep", [True, None]), (1, "broken", [False, None])]:
            inputs = status_run(program, ("unit", 3), place, status)
            self.assertEqual([one if one is None else number != 0 for one, number in zip(is_one, inputs, strict=True)],
                             is_one)

    def test_accesses_that_no_run_comes_to(self):
        units = [FIRST, (None, 1, (("fail",), ("read", 0, 1, 0))), (None, 1, (("write", 2, 0, 0),))]
        program = one_function(units, ("read", 0, 1, 0), ("read", 0, 2, 0))
        self.assertEqual(statuses(program), {(("function", 0), 0): ("asleep",)})
        for status in STATUSES:
            self.assertIsNone(status_run(program, ("function", 0), 1, status))
            self.assertIsNone(status_run(program, ("unit", 2), 0, status))
        self.assertEqual(needless(program), [(("function", 0), 1), (("unit", 1), 1), (("unit", 2), 0)])
        self.assertEqual(early_reads(program), [])
        self.assertIsNone(early_run(program, ("unit", 1), 1))

    def test_of_what_the_first_access_wakes(self):
        program = (((None, 1, (("read", 0, 0, 0), ("read", 0, 1, 0))), FAILS), ((0, (("read", 0, 0, 0),)),))
        self.assertEqual(statuses(program), {(("unit", 0), 0): ("waking",), (("unit", 0), 1): ("asleep",)})
        self.assertEqual(status_run(program, ("unit", 0), 1, "asleep"), [])
        self.assertEqual((early_reads(program), early_run(program, ("unit", 0), 0)), ([(("unit", 0), 0)], []))
        self.assertEqual(needless(program), [(("function", 0), 0), (("unit", 0), 0)])

    def test_a_wake_has_statuses_and_is_never_needless(self):
        program = one_function([FIRST, (None, 1, ())], ("wake", 0, 1), ("wake", 1, 2), ("read", 0, 1, 0))
        self.assertEqual(statuses(program)[(("function", 0), 0)], ("awake",))
        self.assertEqual(status_run(program, ("function", 0), 0, "awake"), [])
        self.assertEqual(needless(program), [(("function", 0), 2)])

    def test_keys_ascend(self):
        for seed in range(50):
            program = drawn_program("keys", seed)
            self.assertEqual(list(statuses(program)), sorted(statuses(program)))


class FewestInputs(unittest.TestCase):
    def test_no_inputs_that_are_taken_afterwards(self):
        program = one_function([FIRST, (None, 1, ())], ("input", 0), ("branch", 3), ("input", 0), ("read", 0, 1, 0),
                               ("input", 0), ("branch", 0))
        self.assertEqual(len(status_run(program, ("function", 0), 3, "asleep")), 2)
        self.assertNotEqual(status_run(program, ("function", 0), 3, "asleep")[1], 0)
        self.assertEqual(len(status_run(program, ("function", 0), 3, "awake")), 6)

    def test_of_early_reads(self):
        reader = (None, 1, (("read", 0, 1, 0),))
        units = [FIRST, (None, 1, (("write", 2, 0, 0), ("write", 1, 0, 0))), reader]
        program = one_function(units, ("input", 0), ("branch", 3), ("write", 2, 0, 0), ("write", 1, 0, 0))
        self.assertEqual(early_reads(program), [(("unit", 2), 0)])
        found = early_run(program, ("unit", 2), 0)
        self.assertEqual((len(found), found[1] != 0), (2, True))

    def test_a_read_is_early_only_while_its_unit_is_waking(self):
        # Unit 2 reads what was never written, of a unit that is awake; unit 3 reads its own field behind a write.
        units = [FIRST, (None, 1, ()), (None, 1, (("read", 0, 1, 0),)), (None, 1, (("write", 3, 0, 0), ("read", 0, 3, 0)))]
        program = one_function(units, ("wake", 1, 1), ("wake", 2, 2), ("wake", 3, 3), ("read", 0, 1, 0))
        self.assertEqual(early_reads(program), [])
        for body, place in [(("unit", 2), 0), (("unit", 3), 1), (("function", 0), 3)]:
            self.assertIsNone(early_run(program, body, place))

    def test_a_hundred_inputs_and_more(self):
        for more in [4, 5]:
            code = [(("call", 1), 1), (("input", 0), more), (("read", 0, 0, 0), 1)]
            program = (((None, 1, ()),), hundred(code))
            access = (("function", 0), more + 1)
            if more == 4:
                found = status_run(program, *access, "awake")
                self.assertEqual((len(found), is_inputs(found)), (100, True))
                self.assertEqual(full_run(program, found, ([], [], []))[6][-1], (*access, "awake"))
                self.assertNotIn((*access, "awake"), full_run(program, found[1:], ([], [], []))[6])
            else:
                with self.assertRaises(TooLong):
                    status_run(program, *access, "awake")
            self.assertIsNone(status_run(program, *access, "asleep"))
            self.assertEqual(statuses(program), {one: ("awake",) for one in accesses(program)})
            self.assertEqual(needless(program), accesses(program))

    def test_more_than_a_hundred_for_an_early_read(self):
        for more in [4, 5]:
            code = [(("call", 1), 1), (("input", 0), more), (("wake", 1, more + 2), 1)]
            program = ((FIRST, (None, 1, (("read", 0, 1, 0),))), hundred(code))
            self.assertEqual(early_reads(program), [(("unit", 1), 0)])
            if more == 4:
                self.assertEqual(len(early_run(program, ("unit", 1), 0)), 100)
                self.assertEqual(len(status_run(program, ("unit", 1), 0, "waking")), 100)
            else:
                with self.assertRaises(TooLong):
                    early_run(program, ("unit", 1), 0)
                with self.assertRaises(TooLong):
                    status_run(program, ("unit", 1), 0, "waking")

    def test_too_many_configurations(self):
        for program, is_many in [(JUST_FEW, False), (TOO_MANY, True)]:
            program = (((None, 1, (("read", 0, 0, 0),)),), program[1])
            body = ("unit", 0)
            for call, expected in [
                (lambda: statuses(program)[(body, 0)], ("waking",)), (lambda: status_run(program, body, 0, "waking"), []),
                (lambda: status_run(program, body, 0, "asleep"), None), (lambda: early_reads(program), [(body, 0)]),
                (lambda: early_run(program, body, 0), []), (lambda: (body, 0) in needless(program), True),
            ]:
                if is_many:
                    self.assertRaises(TooMany, call)
                else:
                    self.assertEqual(call(), expected)


class Brute(unittest.TestCase):
    MOST = 6

    def assert_finds(self, program, finds):
        told = {}
        for body, place in accesses(program):
            for status in STATUSES:
                inputs = status_run(program, body, place, status)
                least = finds.get((body, place, status))
                if inputs is not None:
                    told.setdefault((body, place), []).append(status)
                    self.assertIn((body, place, status), execute(program, inputs).finds)
                if inputs is None or len(inputs) <= self.MOST:
                    self.assertEqual(None if inputs is None else len(inputs), least)
                else:
                    self.assertIsNone(least)
                    self.assertNotIn((body, place, status), execute(program, inputs[:-1]).finds)
        self.assertEqual(statuses(program), {access: tuple(told[access]) for access in told})
        self.assertEqual(needless(program), [
            access for access in accesses(program)
            if not is_wake(program, access) and not {"asleep", "broken"} & set(told.get(access, []))])

    def assert_early(self, program, early):
        told = []
        for body, place in accesses(program):
            if is_read(program, (body, place)):
                inputs = early_run(program, body, place)
                if inputs is None or len(inputs) <= self.MOST:
                    self.assertEqual(None if inputs is None else len(inputs), early.get((body, place)))
                if inputs is not None:
                    told.append((body, place))
                    self.assertIn((body, place), execute(program, inputs).early)
        self.assertEqual(early_reads(program), told)
        return len(told)

    def test_drawn_programs(self):
        found = 0
        for seed in range(250):
            program = drawn_program("checks", seed)
            finds, early = brute(program, self.MOST)
            with self.subTest(seed=seed):
                self.assert_finds(program, finds)
                found += self.assert_early(program, early)
        self.assertGreater(found, 30)

    def test_examples(self):
        for program in EXAMPLES:
            finds, early = brute(program, self.MOST)
            self.assert_finds(program, finds)
            self.assert_early(program, early)


if __name__ == "__main__":
    unittest.main()
