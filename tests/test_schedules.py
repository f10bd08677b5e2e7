"""Deadlocks, the tables that show there is none, and cheapest units ahead, compared with searches of their own."""

import itertools
import random
import unittest

from firstwake.errors import TooMany
from firstwake.schedules import cheapest, deadlock, shows_never
from firstwake.threads import first_state, state_after, steps
from tests import thread_oracle as oracle
from tests.drawn import drawn_locking, drawn_program
from tests.samples import EXAMPLES, FIRST, LOCKED, OTHER_KINDS, SHOW, nested_calls, nodes, one_function, replaced

EMPTY = (None, 0, ())
FAILS = (None, 1, (("fail",),))
# Two units that read each other, and one that is apart from them.
CROSSED = (
    (FIRST, (None, 1, (("read", 0, 2, 0),)), (None, 1, (("read", 0, 1, 0),)), (None, 1, (("fail",),))),
    ((0, (("read", 0, 1, 0),)), (0, (("branch", 1), ("read", 0, 2, 0))), (0, (("wake", 3, 1), ("show", 0)))),
)
# Three units in a ring, in which only three threads wait for one another.
RING = (
    (FIRST, (None, 1, (("read", 0, 2, 0),)), (None, 1, (("read", 0, 3, 0),)), (None, 1, (("read", 0, 1, 0),))),
    ((0, (("read", 0, 1, 0),)), (0, (("read", 0, 2, 0),)), (0, (("read", 0, 3, 0),))),
)


def starts_of(program, dice):
    return tuple(dice.randrange(len(program[1])) for _ in range(dice.choice([1, 2, 2, 2, 3])))


def answer(program, starts, ahead):
    """Return "failed", the least number of moves to a deadlock, or the dict of all states."""
    if oracle.first_state(program, starts, ahead) == "failed":
        return "failed"
    found = oracle.reached(program, starts, ahead)
    dead = [many for state, many in found.items() if oracle.is_dead(program, starts, state)]
    return min(dead) if dead else found


class Deadlocks(unittest.TestCase):
    def compare(self, program, starts, ahead):
        expected, found = answer(program, starts, ahead), deadlock(program, starts, ahead)
        with self.subTest(program=program, starts=starts, ahead=ahead):
            if expected == "failed":
                self.assertEqual(found, "failed")
                self.assertIs(shows_never(program, starts, ahead, {}), False)
            elif isinstance(expected, int):
                self.assertEqual((found[0], len(found[1])), ("deadlock", expected))
                state = state_after(program, starts, ahead, found[1])
                self.assertTrue(oracle.is_dead(program, starts, state))
                self.assertEqual(steps(program, starts, state), [])
                self.assertIs(shows_never(program, starts, ahead, oracle.reached(program, starts, ahead)), False)
            else:
                self.assertEqual(found, ("never", expected))
                self.assertIs(shows_never(program, starts, ahead, expected), True)
            return found[0]

    def test_drawn_programs(self):
        told = {}
        for seed in range(700):
            program = drawn_locking("schedules", seed) if seed % 4 else drawn_program("schedules", seed, most_units=4, instructions=2)
            dice = random.Random(repr(("schedules", seed)))
            starts = starts_of(program, dice)
            ahead = dice.sample(range(len(program[0])), dice.choice([0, 0, 0, 1]))
            if first_state(program, starts, ahead) == "failed" or oracle.reached(program, starts, ahead, most=700):
                found = self.compare(program, starts, ahead), len(starts)
                told[found] = told.get(found, 0) + 1
        self.assertLessEqual({("deadlock", 2), ("deadlock", 3), ("never", 1), ("never", 2), ("never", 3)}, set(told))
        self.assertGreater(sum(many for (word, _), many in told.items() if word == "deadlock"), 10)
        self.assertGreater(sum(many for (word, _), many in told.items() if word == "f"), 10)

    def test_two_units_that_use_each_other(self):
        for starts, ahead, word in [
            ((0, 1), [], "deadlock"), ((0, 1), [1], "never"), ((0, 1), [2], "never"), ((0,), [], "never"), ((1,), [], "never"),
            ((0, 0), [], "never"), ((1, 1), [], "never"), ((0, 1), [0], "deadlock"), ((0, 1), [3], "f"), ((0, 2), [], "never"),
            ((1, 2), [0], "never"),
        ]:
            self.assertEqual(self.compare(CROSSED, starts, ahead), word)
        self.assertEqual(len(deadlock(CROSSED, (0, 1), [])[1]), 4 + 3)

    def test_three_threads_in_a_ring(self):
        self.assertEqual(self.compare(RING, (0, 1, 2), [0]), "deadlock")
        for starts in [(0, 1), (1, 2), (0, 2), (0, 0, 1)]:
            found = self.compare(RING, starts, [0])
            self.assertEqual(found, "deadlock")
        program = ((FIRST, (None, 1, (("read", 0, 2, 0),)), (None, 1, (("read", 0, 3, 0),)), (None, 1, ())), RING[1])
        self.assertEqual(self.compare(program, (0, 1, 2), []), "never")

    def test_a_thread_that_has_failed_or_is_done_is_no_part_of_it(self):
        program = ((FIRST, FAILS), ((0, (("read", 0, 1, 0),)), (0, (("show", 0),))))
        found = deadlock(program, (0, 1), [])
        self.assertEqual(found[0], "never")
        ends = {state[1] for state in found[1] if not steps(program, (0, 1), state)}
        self.assertEqual(ends, {((((("failed", 0), 0)),), ())})
        # The third thread is done, or goes round and round: then the others have their deadlock, or there is none.
        program = (CROSSED[0], CROSSED[1][:2] + ((0, (("show", 0),)),))
        self.assertEqual(self.compare(program, (0, 1, 2), []), "deadlock")
        program = (CROSSED[0], CROSSED[1][:2] + ((0, (("branch", 0), ("branch", 0))),))
        self.assertEqual(self.compare(program, (0, 1, 2), []), "deadlock")

    def test_a_thread_that_moves_for_ever_is_no_deadlock(self):
        # The third one never comes to its end, so there always is a move.
        program = one_function([FIRST], ("branch", 0), ("fail",))
        self.assertEqual(self.compare(program, (0, 0, 0), []), "never")

    def test_examples(self):
        self.assertEqual([deadlock(LOCKED, (0, 1), [])[0], deadlock(LOCKED, (0, 1), [1])[0], deadlock(LOCKED, (0,), [])[0]],
                         ["deadlock", "never", "never"])
        for program in EXAMPLES:
            self.compare(program, (0,), [])
            self.compare(program, (0, len(program[1]) - 1), [])


class ShowsNever(unittest.TestCase):
    STARTS = (0, 2)

    def setUp(self):
        answer, self.states = deadlock(CROSSED, self.STARTS, [])
        self.assertEqual((answer, len(self.states) > 50), ("never", True))

    def assert_none(self, thing):
        with self.subTest(thing=thing):
            self.assertIs(shows_never(CROSSED, self.STARTS, [], thing), False)

    def test_any_order(self):
        for thing in [dict(sorted(self.states.items(), key=repr)), dict(reversed(self.states.items()))]:
            self.assertIs(shows_never(CROSSED, self.STARTS, [], thing), True)

    def test_numbers(self):
        for state, many in self.states.items():
            for other in [many + 1, many - 1, None, str(many), [many], (many,), True, False, -many or 10 ** 20]:
                if (type(other), other) != (int, many):
                    self.assert_none({**self.states, state: other})
        for one, other in itertools.combinations(self.states, 2):
            if self.states[one] != self.states[other]:
                self.assert_none({**self.states, one: self.states[other], other: self.states[one]})
                break

    def test_keys(self):
        for state, many in self.states.items():
            rest = {one: least for one, least in self.states.items() if one != state}
            self.assert_none(rest)
            for path, part in nodes(state):
                for other in [None, 5, -1, "", "held 1", "asleep", (), ("unit", 0), (("start", 0), 0)]:
                    changed = replaced(state, path, other)
                    if changed not in self.states:
                        self.assert_none({**rest, changed: many})
        for key in [(), 0, "", None, (("asleep",), ((),))]:
            self.assert_none({**self.states, key: 0})

    def test_booleans(self):
        changes = 0
        for state, many in self.states.items():
            for path, part in nodes(state):
                if part in (0, 1) and isinstance(part, int):
                    changed = replaced(state, path, bool(part))
                    thing = {(changed if one == state else one): least for one, least in self.states.items()}
                    self.assertEqual(thing, self.states)
                    self.assert_none(thing)
                    changes += 1
                    break
            if many in (0, 1):
                self.assert_none({**self.states, state: bool(many)})
        self.assertGreater(changes, 30)

    def test_other_things(self):
        for thing in [*OTHER_KINDS, list(self.states), list(self.states.items()), ("never", self.states), [self.states],
                      deadlock(CROSSED, (0, 0), [])[1]]:
            self.assert_none(thing)
        self.assertIs(shows_never(CROSSED, (0, 1), [], self.states), False)
        # Not even what is come to before a deadlock.
        whole = oracle.reached(CROSSED, (0, 1), [])
        for most in range(max(whole.values()) + 1):
            part = {state: many for state, many in whole.items() if many <= most}
            self.assertIs(shows_never(CROSSED, (0, 1), [], part), False)
        self.assertIs(shows_never(CROSSED, self.STARTS, [3], {}), False)


class Cheapest(unittest.TestCase):
    def compare(self, program, starts, prices):
        price, units, bars = cheapest(program, starts, prices)
        subsets = [units for size in range(len(prices) + 1) for units in itertools.combinations(range(len(prices)), size)]
        expected = {}
        found = (None, None)
        for worth, one in sorted((sum(prices[unit] for unit in one), one) for one in subsets):
            least = answer(program, starts, list(one))
            if isinstance(least, dict):
                found = (worth, one)
                break
            expected[one] = None if least == "failed" else least
        with self.subTest(program=program, starts=starts, prices=prices):
            self.assertEqual((price, units), found)
            self.assertEqual({key: bar if bar is None else len(bar) for key, bar in bars.items()}, expected)
            for key, bar in bars.items():
                if bar is not None:
                    state = state_after(program, starts, list(key), bar)
                    self.assertTrue(oracle.is_dead(program, starts, state))
        return units, len(bars)

    def test_drawn_programs(self):
        told = {}
        for seed in range(400):
            program = drawn_locking("cheapest", seed, most_units=3)
            dice = random.Random(repr(("cheapest", seed)))
            starts = starts_of(program, dice)
            prices = tuple(dice.choice([0, 1, 1, 2, 3, 65535]) for _ in program[0])
            try:
                found = deadlock(program, starts, [])
            except TooMany:
                continue
            if found[0] == "deadlock" or seed % 10 == 0:
                units, many = self.compare(program, starts, prices)
                key = units if units is None else len(units)
                told[key] = told.get(key, 0) + 1
        self.assertLessEqual({0, 1}, set(told))
        self.assertGreater(told[1], 5)

    def test_prices(self):
        for prices, found in [
            ((0, 1, 5, 0), ((0, 1), 10)), ((0, 5, 1, 0), ((0, 2), None)), ((1, 1, 1, 1), ((1,), 2)), ((1, 1, 0, 1), ((2,), 1)),
            ((0, 0, 0, 0), ((0, 1), 2)), ((5, 3, 3, 5), ((1,), 1)), ((65535, 65535, 65535, 65535), ((1,), 2)),
            ((1, 65535, 65534, 0), ((2,), None)),
        ]:
            units, bars = self.compare(CROSSED, (0, 1), prices)
            self.assertEqual(units, found[0])

    def test_equal_sums_are_taken_ascending(self):
        self.assertEqual(cheapest(LOCKED, (0, 1), (0, 0, 0))[:2], (0, (0, 1)))
        self.assertEqual(list(cheapest(LOCKED, (0, 1), (0, 0, 0))[2]), [(), (0,)])
        price, units, bars = cheapest(LOCKED, (0, 1), (1, 2, 1))
        self.assertEqual((price, units, sorted(bars)), (1, (2,), [(), (0,)]))
        price, units, bars = cheapest(LOCKED, (0, 1), (1, 2, 2))
        self.assertEqual((price, units, sorted(bars)), (2, (1,), [(), (0,)]))

    def test_no_deadlock_at_all(self):
        self.assertEqual(cheapest(LOCKED, (0, 0), (1, 0, 0)), (0, (), {}))

    def test_units_that_fail(self):
        program = ((FIRST, (None, 1, (("read", 0, 2, 0),)), (None, 1, (("read", 0, 1, 0), ("fail",)))),
                   ((0, (("wake", 1, 1),)), (0, (("wake", 2, 1),))))
        # Whatever wakes one of the two ahead fails, so nothing serves.
        price, units, bars = cheapest(program, (0, 1), (0, 1, 1))
        self.assertEqual((price, units, len(bars)), (None, None, 8))
        self.assertEqual({key for key, bar in bars.items() if bar is None}, set(bars) - {(), (0,)})
        self.compare(program, (0, 1), (0, 1, 1))


class Bounds(unittest.TestCase):
    # Fewer than 2000 states of one thread, and 2000 or more of several.
    CODES = nested_calls([(("call", 1), 7)], [(("call", 2), 8)], [(SHOW, 8)], [(SHOW, 1)])[1]
    LONG = ((FIRST, EMPTY), CODES)

    def test_number_of_states(self):
        self.assertEqual(len(deadlock(self.LONG, (0,), [])[1]), self.many(8, 7))
        self.assertLessEqual(self.many(8, 7), 2000)
        self.assertRaises(TooMany, deadlock, self.LONG, (0, 0), [])
        self.assertRaises(TooMany, shows_never, self.LONG, (0, 0), [], {})
        self.assertRaises(TooMany, cheapest, self.LONG, (0, 0), (0, 0))
        self.assertEqual(cheapest(self.LONG, (0,), (0, 0)), (0, (), {}))

    def many(self, shows, calls):
        """Return the number of states of one thread of the program."""
        second = shows + 1
        first = 8 * (1 + second) + 1
        return 3 + calls * (1 + first) + 1 + 1

    def test_just_two_thousand(self):
        third, tail = [(("call", 3), 6), (SHOW, 2)], [(SHOW, 5)]
        program = nested_calls([(("call", 1), 7)], [(("call", 2), 6), (("call", 3), 1)], third, tail)
        found = deadlock(program, (0,), [])[1]
        self.assertEqual((len(found), max(found.values())), (2000, 1999))
        self.assertEqual(found, oracle.reached(program, (0,), []))
        self.assertIs(shows_never(program, (0,), [], found), True)
        third = [(("call", 3), 6), (SHOW, 1)]
        program = nested_calls([(("call", 1), 6), (("call", 2), 1), (("call", 3), 1)], [(("call", 2), 7), (("call", 3), 1)],
                               third, tail)
        self.assertEqual(len(oracle.reached(program, (0,), [])), 2001)
        self.assertRaises(TooMany, deadlock, program, (0,), [])
        self.assertRaises(TooMany, shows_never, program, (0,), [], {})

    def test_a_deadlock_before_the_bound(self):
        long = (("call", 2),) * 7
        codes = ((0, (("read", 0, 1, 0),) + long), (0, (("read", 0, 2, 0),) + long), (0, (("call", 3),) * 8), (0, (SHOW,) * 8))
        program = (LOCKED[0], codes)
        try:
            self.assertEqual(deadlock(program, (0, 1), [0])[0], "deadlock")
        except TooMany:
            self.fail("there are fewer states before")
        self.assertRaises(TooMany, deadlock, program, (0, 1), [1])

    def test_cheapest_does_not_look_behind_the_first_one(self):
        # With the units 0 and 1 ahead there are fewer states than with unit 1 alone, which stands behind them.
        units = ((None, 0, (("number", 0, 0),) * 6), *LOCKED[0][1:], FIRST)
        rest = (("call", 2),) * 4 + (SHOW, ("wake", 0, 7))
        program = (units, ((3, (("read", 0, 1, 0),) + rest), (3, (("read", 0, 2, 0),) + rest), (3, (SHOW,) * 7)))
        price, found, bars = cheapest(program, (0, 1), (0, 1, 1, 9))
        self.assertEqual((price, found, sorted(bars)), (1, (0, 1), [(), (0,)]))
        self.assertRaises(TooMany, deadlock, program, (0, 1), [1])
        self.assertRaises(TooMany, cheapest, program, (0, 1), (1, 0, 1, 9))

    def test_too_many_for_the_first_tuple(self):
        long = (("call", 2),) * 7
        codes = ((0, (("wake", 3, 1),) + long), (0, (("wake", 3, 1),) + long), (0, (("call", 3),) * 8), (0, (SHOW,) * 8))
        self.assertRaises(TooMany, cheapest, ((*LOCKED[0], EMPTY), codes), (0, 1), (1, 1, 1, 1))


if __name__ == "__main__":
    unittest.main()
