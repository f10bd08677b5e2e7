"""The errors of pairs, threads and schedules: each one, and the earliest argument's first."""

import unittest

from firstwake.errors import (
    NoMove, NoOrder, NoPlan, NoPrices, NoProgram, NoStarts, NoState, NoUnit, TooMany, WakeError,
)
from firstwake.pairs import judge, longest, quiet, shows_unnoticed
from firstwake.schedules import cheapest, deadlock, shows_never
from firstwake.threads import first_state, state_after, steps
from tests.samples import LOCKED, NO_PROGRAMS, OTHER_KINDS, RUN, TOO_MANY

NO_INDEXES = [None, True, False, -1, 10 ** 20, -10 ** 20, "", "0", (), (0,), [], [0], {}]
NO_STARTS = [*OTHER_KINDS, (0, 0, 0, 0), (2,), (0, 2), (-1,), (True,), (0, False), ("open",), (0, "open"), [0, 1], (None,), ((0,),)]
NO_ORDERS = [*OTHER_KINDS, [0, 0], [3], [-1], [True], [False, 1], (0, 1), [None], ["0"], [[0]], {0: 0}, [0, 1, 2, 0]]
NO_PLANS = [
    *OTHER_KINDS, ([3], [], []), ([0, 0], [], []), ([], [(("unit", 2), 0)] * 2, []), ([], [(("unit", 2), 3)], []),
    ([], [], [(0, 3, 0)]), ([], [], [(0, 0, 0)] * 2), ([], []), [[], [], []], ([True], [], []), ([], [], [(0, True, 0)]),
    ((), (), ()), ([], [], [], []), ([], {}, []), None,
]
NO_PRICES = [*OTHER_KINDS, [0, 1, 5], (0, 1), (0, 1, 5, 6), (0, 1, -1), (0, 1, 65536), (0, 1, True), (0, None, 1), ("0", 0, 0),
             (0, 0, (0,)), {0: 0, 1: 1, 2: 2}]


class Errors(unittest.TestCase):
    def refuse(self, error, wrongs, *calls):
        for wrong in wrongs:
            for call in calls:
                with self.subTest(error=error, wrong=wrong):
                    with self.assertRaises(WakeError) as caught:
                        call(wrong)
                    self.assertIs(type(caught.exception), error)
                    self.assertTrue(str(caught.exception))

    def test_programs(self):
        self.refuse(
            NoProgram, NO_PROGRAMS, lambda it: judge(it, None), lambda it: shows_unnoticed(it, None, None),
            lambda it: quiet(it, None), longest, lambda it: first_state(it, None, None), lambda it: steps(it, None, None),
            lambda it: state_after(it, None, None, None), lambda it: deadlock(it, None, None),
            lambda it: shows_never(it, None, None, None), lambda it: cheapest(it, None, None),
        )

    def test_plans(self):
        self.refuse(NoPlan, NO_PLANS, lambda it: judge(RUN, it), lambda it: shows_unnoticed(RUN, it, []))

    def test_units(self):
        self.refuse(NoUnit, NO_INDEXES + [3], lambda it: quiet(LOCKED, it))
        self.refuse(NoUnit, NO_INDEXES + [1], lambda it: quiet(TOO_MANY, it))

    def test_starts(self):
        wrongs = [one for one in NO_STARTS if one != (0,)]
        self.refuse(
            NoStarts, wrongs, lambda it: first_state(LOCKED, it, None), lambda it: steps(LOCKED, it, None),
            lambda it: state_after(LOCKED, it, None, None), lambda it: deadlock(LOCKED, it, None),
            lambda it: shows_never(LOCKED, it, None, None), lambda it: cheapest(LOCKED, it, None),
        )

    def test_orders(self):
        wrongs = [one for one in NO_ORDERS if one not in ([], [0])]
        self.refuse(
            NoOrder, wrongs, lambda it: first_state(LOCKED, (0,), it), lambda it: state_after(LOCKED, (0,), it, None),
            lambda it: deadlock(LOCKED, (0,), it), lambda it: shows_never(LOCKED, (0,), it, None),
        )

    def test_prices(self):
        self.refuse(NoPrices, NO_PRICES, lambda it: cheapest(LOCKED, (0, 1), it))

    def test_states_and_moves(self):
        self.refuse(NoState, OTHER_KINDS, lambda it: steps(LOCKED, (0, 1), it))
        wrongs = [one for one in OTHER_KINDS if one != []]
        self.refuse(NoMove, wrongs + [[(0, 1)]], lambda it: state_after(LOCKED, (0, 1), [], it))

    def test_things_are_never_refused(self):
        for thing in OTHER_KINDS:
            self.assertIs(shows_unnoticed(RUN, ([], [], []), thing), False)
            self.assertIs(shows_never(LOCKED, (0, 1), [1], thing), False)

    def test_too_many_comes_last(self):
        self.refuse(TooMany, [TOO_MANY], lambda it: judge(it, ([], [], [])), lambda it: quiet(it, 0), longest,
                    lambda it: shows_unnoticed(it, ([], [], []), None), lambda it: deadlock(it, (0, 0), []),
                    lambda it: shows_never(it, (0, 0), [], None), lambda it: cheapest(it, (0, 0), (0,)))
        self.refuse(NoPlan, [TOO_MANY], lambda it: judge(it, None))
        self.refuse(NoOrder, [TOO_MANY], lambda it: deadlock(it, (0, 0), [1]))
        self.refuse(NoPrices, [TOO_MANY], lambda it: cheapest(it, (0, 0), ()))


if __name__ == "__main__":
    unittest.main()
