"""The errors of histories and callers: each one, and the earliest argument's first."""

import unittest

from firstwake import errors, libraries
from firstwake.callers import caller_state, caller_steps
from firstwake.errors import (
    NoAccess, NoOrder, NoPlan, NoPrices, NoProgram, NoStarts, NoState, TooMany, WakeError,
)
from firstwake.guards import caller_finds, cycle_schedule, find_schedule, guard, half, shows_no_half, spared
from firstwake.histories import (
    are_library_configurations, judge_library, library_configurations, library_needless, library_statuses,
    shows_library_unnoticed, status_history,
)
from firstwake.libraries import NoHistory, history_run, is_history
from tests.samples import FIRST, LIBRARY, LOCKED, NO_PROGRAMS, OTHER_KINDS, SHOW, nested_calls
from tests.test_wrong_calls import NO_SPOTS
from tests.test_wrong_threads import NO_ORDERS, NO_PLANS, NO_PRICES, NO_STARTS

NOTHING = ([], [], [])
MANY = nested_calls([(("call", 1), 6), (SHOW, 1)], [(("call", 2), 6), (SHOW, 1)], [(("call", 3), 6)], [(SHOW, 8)])
FAILING = ((FIRST, (None, 1, (("fail",),))), ((0, (("wake", 1, 1), ("read", 0, 1, 0))),))
WAKE, READ = (("function", 0), 0), (("function", 0), 1)
NO_CALLERS = [one for one in NO_STARTS if one not in [(0,), ("open",), (0, "open")]] + [
    ("Open",), ("open", "open", "open", "open"), ["open"], "open", ("open", 2), ("open", None), (("open",),), ("closed",), ("",)]
NO_UNCHECKED = [one for one in OTHER_KINDS if one != []] + [
    [WAKE], [READ, READ], [READ, WAKE], (READ,), [(("function", 0), 2)], [(("function", 1), 0)], [(("unit", 0), 0)],
    [(("unit", 1), 0)], [(("function", False), 1)], [(("function", 0), True)], [["function", 1]], [None], [READ + (0,)], {READ: 0}]
NO_STATUSES = [None, True, 0, "", "Asleep", "asleep ", "held 0", (), [], {}, ("asleep",), ["asleep"]]


class Errors(unittest.TestCase):
    def refuse(self, error, wrongs, *calls):
        for wrong in wrongs:
            for call in calls:
                with self.subTest(error=error, wrong=wrong):
                    with self.assertRaises(WakeError) as caught:
                        call(wrong)
                    self.assertIs(type(caught.exception), error)
                    self.assertTrue(str(caught.exception))

    def test_programs(self):
        self.refuse(
            NoProgram, NO_PROGRAMS, lambda it: is_history(it, None), lambda it: history_run(it, None, None), library_configurations,
            library_statuses, library_needless, lambda it: are_library_configurations(it, None),
            lambda it: status_history(it, None, None, None), lambda it: judge_library(it, None),
            lambda it: shows_library_unnoticed(it, None, None), lambda it: caller_state(it, None, None),
            lambda it: caller_steps(it, None, None, None), lambda it: caller_finds(it, None, None), lambda it: spared(it, None, None),
            lambda it: find_schedule(it, None, None, None, None, None), lambda it: cycle_schedule(it, None, None),
            lambda it: half(it, None, None, None), lambda it: shows_no_half(it, None, None, None, None),
            lambda it: guard(it, None, None, None),
        )

    def test_histories(self):
        wrongs = [*OTHER_KINDS, ([0] * 101, []), ([], [0] * 101), ([2], []), ([True], []), ([0], [False]), ([0], [65536]), [[0], []],
                  ([0],), ([0], [], []), ((0,), ()), ([-1], [])]
        self.refuse(NoHistory, wrongs, lambda it: history_run(LIBRARY, it, NOTHING), lambda it: history_run(LIBRARY, it, None))

    def test_the_class_of_no_history(self):
        self.assertEqual((NoHistory.__bases__, NoHistory.__module__), ((WakeError,), "firstwake.libraries"))
        self.assertEqual(str(NoHistory("a text")), "a text")
        self.assertNotIn("NoHistory", vars(errors))
        self.assertIs(libraries.NoHistory, NoHistory)

    def test_plans(self):
        wrongs = [*NO_PLANS, ([], [WAKE], []), ([2], [], [])]
        self.refuse(NoPlan, wrongs, lambda it: history_run(FAILING, ([0], []), it), lambda it: judge_library(FAILING, it),
                    lambda it: shows_library_unnoticed(FAILING, it, None))

    def test_accesses_and_statuses(self):
        for body, place in NO_SPOTS:
            self.refuse(NoAccess, [None, "asleep", []], lambda it: status_history(LOCKED, body, place, it),
                        lambda it: find_schedule(LOCKED, (0,), [], body, place, it),
                        lambda it: find_schedule(FAILING, (0,), [1], None, place, it))
        self.refuse(NoState, NO_STATUSES + ["self", "other"], lambda it: status_history(FAILING, *WAKE, it),
                    lambda it: status_history(MANY, *WAKE, it))
        self.refuse(NoState, NO_STATUSES + ["waking", "found"], lambda it: find_schedule(FAILING, ("open",), [], *WAKE, it),
                    lambda it: find_schedule(FAILING, ("open",), [1], *WAKE, it))
        for status in ["asleep", "waking", "awake", "broken"]:
            self.assertIn(type(status_history(FAILING, *WAKE, status)), [tuple, type(None)])
        for word in ["asleep", "awake", "broken", "self", "other"]:
            self.assertIn(type(find_schedule(FAILING, ("open",), [], *WAKE, word)), [list, type(None)])

    def test_callers(self):
        self.refuse(
            NoStarts, NO_CALLERS, lambda it: caller_state(LOCKED, it, None), lambda it: caller_steps(LOCKED, it, None, None),
            lambda it: caller_finds(LOCKED, it, None), lambda it: spared(LOCKED, it, None),
            lambda it: find_schedule(LOCKED, it, None, None, None, None), lambda it: cycle_schedule(LOCKED, it, None),
            lambda it: half(LOCKED, it, None, None), lambda it: shows_no_half(LOCKED, it, None, None, None),
            lambda it: guard(LOCKED, it, None, None),
        )

    def test_orders(self):
        wrongs = [one for one in NO_ORDERS if one not in ([], [0])]
        self.refuse(
            NoOrder, wrongs, lambda it: caller_state(LOCKED, ("open",), it), lambda it: caller_finds(LOCKED, ("open",), it),
            lambda it: spared(LOCKED, ("open",), it), lambda it: find_schedule(LOCKED, ("open",), it, None, None, None),
            lambda it: cycle_schedule(LOCKED, ("open",), it), lambda it: half(LOCKED, ("open",), it, None),
            lambda it: shows_no_half(LOCKED, ("open",), it, None, None),
        )

    def test_unchecked_accesses(self):
        self.refuse(
            NoAccess, NO_UNCHECKED, lambda it: caller_steps(FAILING, ("open",), it, None), lambda it: half(FAILING, ("open",), [], it),
            lambda it: half(FAILING, ("open",), [1], it), lambda it: shows_no_half(FAILING, ("open",), [], it, None),
            lambda it: shows_no_half(FAILING, ("open",), [1], it, None), lambda it: guard(FAILING, ("open",), it, None),
        )

    def test_prices_and_states(self):
        self.refuse(NoPrices, NO_PRICES, lambda it: guard(LOCKED, ("open",), [], it))
        self.refuse(NoPrices, NO_PRICES, lambda it: guard(LOCKED, (0, 1), [(("unit", 2), 0)], it))
        self.refuse(NoState, OTHER_KINDS, lambda it: caller_steps(LOCKED, ("open", 0), [], it))

    def test_things_are_never_refused(self):
        for thing in OTHER_KINDS:
            self.assertIs(is_history(LIBRARY, thing), False)
            self.assertIs(are_library_configurations(LIBRARY, thing), False)
            self.assertIs(shows_library_unnoticed(LIBRARY, NOTHING, thing), False)
            self.assertIs(shows_no_half(LOCKED, ("open",), [], [], thing), False)
            self.assertIs(shows_no_half(FAILING, ("open",), [1], [], thing), False)

    def test_too_many_comes_last(self):
        one = (("function", 0), 0)
        self.refuse(
            TooMany, [MANY], library_configurations, library_statuses, library_needless, lambda it: are_library_configurations(it, None),
            lambda it: status_history(it, *one, "asleep"), lambda it: judge_library(it, NOTHING),
            lambda it: shows_library_unnoticed(it, NOTHING, None), lambda it: caller_finds(it, ("open",), []),
            lambda it: spared(it, ("open",), []), lambda it: find_schedule(it, ("open",), [], *one, "broken"),
            lambda it: cycle_schedule(it, ("open",), []), lambda it: half(it, ("open",), [], []),
            lambda it: shows_no_half(it, ("open",), [], [], None), lambda it: guard(it, ("open",), [], (0,)),
        )
        self.refuse(NoPlan, [MANY], lambda it: judge_library(it, None))
        self.refuse(NoAccess, [MANY], lambda it: status_history(it, ("unit", 0), 0, "asleep"))
        self.refuse(NoPrices, [MANY], lambda it: guard(it, ("open",), [], ()))

    def test_two_places_where_an_access_ahead_fails(self):
        for found in [caller_state(FAILING, ("open",), [1]), caller_finds(FAILING, (0,), [1]), spared(FAILING, (0,), [1]),
                      find_schedule(FAILING, (0,), [1], *WAKE, "asleep"), cycle_schedule(FAILING, (0,), [1]),
                      half(FAILING, (0,), [1], [READ])]:
            self.assertEqual(found, "failed")


if __name__ == "__main__":
    unittest.main()
