"""The errors of runs, configurations and checks: each one, and the earliest argument's first."""

import unittest

from firstwake.checks import early_reads, early_run, needless, status_run, statuses
from firstwake.errors import NoAccess, NoInputs, NoNumber, NoPlan, NoProgram, NoState, NoUnit, TooMany, WakeError
from firstwake.plain import full_run, run, woken_run
from firstwake.programs import accesses
from firstwake.walks import are_configurations, configurations
from tests.samples import GREATEST, LOCKED, OTHER_KINDS, RUN, TOO_MANY

NOTHING = ([], [], [])
NO_NUMBERS = [None, True, False, "", "0", (), (0,), [], [0], {}, -1, 10 ** 20, -10 ** 20, ((),)]
NO_SPOTS = [
    (None, 0), (("unit", 2), None), (("unit", 2), True), (("unit", 2), False), (("unit", 2), "0"), (("unit", 2), -1),
    (("unit", 2), 1), (("unit", 0), 0), (("unit", 3), 0), (("unit", True), 0), (("unit", "2"), 0), (["unit", 2], 0),
    ("unit", 2), (("unit", 2, 0), 0), (("unit",), 0), ((2, "unit"), 0), ("", 0), ([], []), ({}, {}), (("Unit", 2), 0),
    (("function", 2), 0), (("function", 0), 1), (("function", False), 0), (("function", 0), [0]), (("function", 0), (0,)),
    (("initializer", 2), 0), (("unit", 2), 10 ** 20), (("unit", 10 ** 20), 0), (0, ("unit", 2)), ((("unit", 2), 0), 0),
]


class Plain(unittest.TestCase):
    def test_inputs(self):
        for inputs in [*OTHER_KINDS, (1,), [True], [0, False], [-1], [65536], [0] * 101, [None], ["1"], [[1]], {0: 0}]:
            if inputs not in ([], [0]):
                with self.subTest(inputs=inputs):
                    self.assertRaises(NoInputs, run, RUN, inputs)
                    self.assertRaises(NoInputs, full_run, RUN, inputs, NOTHING)
                    self.assertRaises(NoInputs, full_run, RUN, inputs, None)
                    self.assertRaises(NoInputs, woken_run, RUN, inputs, 0, 0)
                    self.assertRaises(NoInputs, woken_run, RUN, inputs, None, None)
                    self.assertRaises(NoProgram, run, None, inputs)
                    self.assertRaises(NoProgram, full_run, None, inputs, None)
                    self.assertRaises(NoProgram, woken_run, None, inputs, None, None)

    def test_plans(self):
        second = (("unit", 2), 0)
        for plan in [*OTHER_KINDS, ([3], [], []), ([0, 0], [], []), ([], [second, second], []), ([], [(("unit", 2), 3)], []),
                     ([], [], [(0, 3, 0)]), ([], [], [(0, 0, 0)] * 2), ([], []), [[], [], []], ([True], [], []),
                     ([], [], [(0, True, 0)]), ((), (), ())]:
            with self.subTest(plan=plan):
                self.assertRaises(NoPlan, full_run, RUN, [], plan)

    def test_units_and_moments(self):
        for other in NO_NUMBERS:
            with self.subTest(other=other):
                self.assertRaises(NoUnit, woken_run, RUN, [], other, 0)
                self.assertRaises(NoUnit, woken_run, RUN, [], other, None)
                if other != 10 ** 20:
                    self.assertRaises(NoNumber, woken_run, RUN, [], 0, other)
        self.assertRaises(NoUnit, woken_run, RUN, [], 3, 0)
        self.assertRaises(NoNumber, woken_run, RUN, [], 2, -1)
        self.assertEqual(woken_run(RUN, [], 2, 65536), full_run(RUN, [], NOTHING))


class Checks(unittest.TestCase):
    def test_accesses(self):
        for body, place in NO_SPOTS:
            with self.subTest(body=body, place=place):
                for status in ["asleep", None, []]:
                    self.assertRaises(NoAccess, status_run, LOCKED, body, place, status)
                self.assertRaises(NoAccess, early_run, LOCKED, body, place)
                self.assertRaises(NoProgram, status_run, None, body, place, "asleep")
                self.assertRaises(NoProgram, early_run, None, body, place)

    def test_statuses(self):
        for status in [None, True, 0, 1, "", "Asleep", "asleep ", "held 0", "other", "self", (), [], {}, ("asleep",), ["asleep"]]:
            with self.subTest(status=status):
                self.assertRaises(NoState, status_run, LOCKED, ("unit", 2), 0, status)
        for status in ["asleep", "waking", "awake", "broken"]:
            self.assertIn(status_run(LOCKED, ("unit", 2), 0, status), [None, []])

    def test_reads(self):
        for body, place in accesses(GREATEST):
            instruction = GREATEST[0 if body[0] == "unit" else 1][body[1]][-1][place]
            if instruction[0] == "read":
                self.assertIn(early_run(GREATEST, body, place), [None, []])
            else:
                self.assertRaises(NoAccess, early_run, GREATEST, body, place)
            self.assertIn(status_run(GREATEST, body, place, "waking"), [None, []])

    def test_too_many_comes_last(self):
        self.assertRaises(NoAccess, status_run, TOO_MANY, ("unit", 0), 0, "asleep")
        self.assertRaises(NoState, status_run, TOO_MANY, ("function", 0), 0, "asleep ")
        self.assertRaises(TooMany, status_run, TOO_MANY, ("function", 0), 0, "asleep")
        self.assertRaises(NoAccess, early_run, TOO_MANY, ("function", 0), 0)

    def test_errors_are_of_their_classes(self):
        for error, call in [
            (NoInputs, lambda: run(RUN, None)), (NoPlan, lambda: full_run(RUN, [], None)),
            (NoNumber, lambda: woken_run(RUN, [], 0, -1)), (NoUnit, lambda: woken_run(RUN, [], -1, 0)),
            (NoAccess, lambda: status_run(RUN, None, 0, "asleep")), (NoState, lambda: status_run(RUN, ("unit", 1), 1, "")),
            (TooMany, lambda: configurations(TOO_MANY)), (TooMany, lambda: are_configurations(TOO_MANY, None)),
            (TooMany, lambda: statuses(TOO_MANY)), (TooMany, lambda: early_reads(TOO_MANY)),
            (TooMany, lambda: needless(TOO_MANY)),
        ]:
            with self.assertRaises(WakeError) as caught:
                call()
            self.assertIs(type(caught.exception), error)
            self.assertTrue(str(caught.exception))


if __name__ == "__main__":
    unittest.main()
