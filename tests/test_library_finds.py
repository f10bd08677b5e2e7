"""Library configurations, and what accesses find in all histories, compared with the trial of histories."""

import itertools
import random
import unittest

from firstwake.checks import needless
from firstwake.errors import TooLong, TooMany
from firstwake.histories import (
    are_library_configurations, library_configurations, library_needless, library_statuses, status_history,
)
from firstwake.libraries import history_run
from firstwake.programs import accesses
from tests.drawn import drawn_program
from tests.history_oracle import all_configurations
from tests.samples import EXAMPLES, FIRST, LIBRARY, OTHER_KINDS, SESSION, SHOW, nested_calls, nodes, one_function, replaced

NOTHING = ([], [], [])
EMPTY = (None, 0, ())
FAILS = (None, 1, (("fail",),))
STATUSES = ["asleep", "waking", "awake", "broken"]
MOST = 4
# With calls, inputs, a unit that breaks, a "wake" that catches, and functions that several calls are of.
MIXED = (
    (FIRST, FAILS, (None, 1, ())),
    ((0, (("branch", 2), ("call", 1), ("wake", 1, 3))), (2, (("input", 0), ("write", 2, 0, 0))), (1, (SHOW,))),
)


def drawn_small(*seed):
    return drawn_program(*seed, most_functions=2, instructions=3)


class Configurations(unittest.TestCase):
    def compare(self, program, most=MOST):
        found, (expected, _) = library_configurations(program), all_configurations(program, most)
        with self.subTest(program=program):
            self.assertEqual({one: many for one, many in found.items() if many <= most}, expected)
            self.assertIs(are_library_configurations(program, found), True)
        return found

    def test_one_function(self):
        self.assertEqual(self.compare(SESSION), {
            ((), ("asleep",)): 0, (((0, 0),), ("awake",)): 1, (((0, 1),), ("awake",)): 2, ((), ("awake",)): 2})

    def test_a_call_that_fails(self):
        program = ((FIRST, FAILS), ((1, (SHOW,)), (0, (("wake", 1, 1), SHOW))))
        self.assertEqual(self.compare(program), {
            ((), ("asleep", "asleep")): 0, ((), ("asleep", "broken")): 1, (((1, 0),), ("awake", "asleep")): 1,
            (((1, 1),), ("awake", "broken")): 1, ((), ("awake", "broken")): 1, (((1, 0),), ("awake", "broken")): 2,
        })

    def test_the_written_fields_are_no_part(self):
        program = one_function([FIRST, (None, 1, ())], ("write", 1, 0, 0), ("write", 1, 0, 0), SHOW)
        self.assertEqual(len(self.compare(program)), 1 + 3 + 2)

    def test_examples_and_drawn_programs(self):
        sizes = [len(self.compare(program)) for program in [*EXAMPLES, MIXED]]
        self.assertGreater(max(sizes), 20)
        several = sum(len(self.compare(drawn_small("library", seed))) for seed in range(400))
        self.assertGreater(several, 2500)

    def test_least_numbers_of_calls_and_inputs_together(self):
        # One call of function 0 takes as much as two of function 1.
        program = ((FIRST, EMPTY, EMPTY), ((0, (("input", 0), ("wake", 1, 2))), (0, (("wake", 2, 1),))))
        found = self.compare(program)
        self.assertEqual(found[((), ("awake", "awake", "asleep"))], 2)
        self.assertEqual(found[((), ("awake", "asleep", "awake"))], 1)
        self.assertEqual(found[((), ("awake", "awake", "awake"))], 3)


class AreConfigurations(unittest.TestCase):
    def setUp(self):
        self.found = library_configurations(MIXED)
        self.assertGreater(len(self.found), 20)

    def assert_none(self, thing):
        with self.subTest(thing=thing):
            self.assertIs(are_library_configurations(MIXED, thing), False)

    def test_any_order(self):
        for thing in [dict(reversed(self.found.items())), dict(sorted(self.found.items()))]:
            self.assertIs(are_library_configurations(MIXED, thing), True)

    def test_numbers(self):
        for key, many in self.found.items():
            for other in [many + 1, many - 1, None, str(many), [many], (many,), bool(many), True, False, 10 ** 20]:
                self.assert_none({**self.found, key: other})
        pairs = [pair for pair in itertools.combinations(self.found, 2) if self.found[pair[0]] != self.found[pair[1]]]
        for one, other in random.Random(1).sample(pairs, 30):
            self.assert_none({**self.found, one: self.found[other], other: self.found[one]})

    def test_keys(self):
        for key, many in self.found.items():
            rest = {other: least for other, least in self.found.items() if other != key}
            self.assert_none(rest)
            for path, part in nodes(key):
                for other in [None, 0, 1, 5, -1, "", "asleep", "waking", "broken", (), (part,), ((0, 0),)]:
                    changed = replaced(key, path, other)
                    if changed not in self.found:
                        self.assert_none({**rest, changed: many})
        for more in [(), None, 0, "", ((), ("awake",) * 4), ((), ("waking",) * 3)]:
            self.assert_none({**self.found, more: 1})

    def test_booleans_in_keys(self):
        changes = 0
        for key in self.found:
            for path, part in nodes(key):
                if part in (0, 1) and isinstance(part, int):
                    changed = replaced(key, path, bool(part))
                    thing = {(changed if other == key else other): many for other, many in self.found.items()}
                    self.assertEqual(thing, self.found)
                    self.assert_none(thing)
                    changes += 1
        self.assertGreater(changes, 20)

    def test_other_things(self):
        for thing in [*OTHER_KINDS, list(self.found), [self.found], tuple(self.found.items()), library_configurations(LIBRARY)]:
            self.assert_none(thing)


class Finds(unittest.TestCase):
    def compare(self, program, most=MOST):
        """Compare what is told of each access with the oracle; return the dict of the statuses."""
        _, expected = all_configurations(program, most)
        told = library_statuses(program)
        for body, place in accesses(program):
            for status in STATUSES:
                found = status_history(program, body, place, status)
                with self.subTest(program=program, body=body, place=place, status=status):
                    self.assertEqual(found is not None, status in told.get((body, place), ()))
                    if found is None:
                        self.assertNotIn((body, place, status), expected)
                        continue
                    many = len(found[0]) + len(found[1])
                    least = expected.get((body, place, status))
                    self.assertTrue(many == least if least is not None else many > most)
                    self.assertIn((body, place, status), history_run(program, found, NOTHING)[6])
                    self.assertEqual([type(part) for part in found], [list, list])
        for access, found in told.items():
            self.assertEqual(found, tuple(sorted(set(found))))
            self.assertNotEqual(found, ())
            self.assertIn(access, accesses(program))
        checked = [(body, place) for body, place in accesses(program) if word(program, body, place) != "wake"]
        self.assertEqual(library_needless(program), [
            access for access in checked if not {"asleep", "broken"} & set(told.get(access, ()))])
        return told

    def test_drawn_programs(self):
        many = {}
        for seed in range(300):
            program = drawn_small("library finds", seed)
            for found in self.compare(program).values():
                for status in found:
                    many[status] = many.get(status, 0) + 1
            self.assertLessEqual(set(library_needless(program)), set(needless(program)))
        self.assertEqual(set(many), set(STATUSES))
        self.assertGreater(min(many.values()), 20)

    def test_examples(self):
        for program in [*EXAMPLES, MIXED]:
            self.compare(program)

    def test_what_only_later_calls_find(self):
        program = ((FIRST, (None, 1, ())), ((0, (("read", 0, 1, 0),)), (0, (("read", 0, 1, 0),))))
        access, later = (("function", 0), 0), (("function", 1), 0)
        self.assertEqual(self.compare(program), {access: ("asleep", "awake"), later: ("asleep", "awake")})
        self.assertEqual(status_history(program, *access, "asleep"), ([0], []))
        self.assertEqual(len(status_history(program, *later, "awake")[0]), 2)
        self.assertEqual((library_needless(program), needless(program)), ([], [later]))
        self.assertIsNone(status_history(program, *access, "broken"))

    def test_a_find_by_the_call_itself_and_by_an_input(self):
        # Unit 2 is woken by a call of function 1, or by function 0 with an input; both take as much.
        units = (FIRST, EMPTY, (None, 0, (("read", 0, 3, 0),)), (None, 1, ()))
        program = (units, ((0, (("input", 0), ("wake", 2, 2))), (2, (SHOW,))))
        self.compare(program)
        self.assertEqual(status_history(program, ("unit", 2), 0, "asleep"), ([1], []))
        program = (units, ((0, (("wake", 2, 1),)), (0, (("input", 0), ("call", 2))), (2, (SHOW,))))
        self.compare(program)
        self.assertEqual(sorted(len(status_history(program, ("unit", 2), 0, "asleep")[0]) for _ in range(2)), [1, 1])

    def test_a_find_in_a_call_before_one_by_the_next_call(self):
        # With one input the call goes on and wakes unit 2; with another one it ends, and only the next call wakes it.
        units = (FIRST, EMPTY, (None, 0, (("read", 0, 3, 0),)), (None, 1, ()))
        for code, history in [
            ((("wake", 3, 1), ("branch", 3), ("wake", 2, 3)), ([0], [0])),
            ((("wake", 3, 1), ("branch", 3), ("branch", 4), ("wake", 2, 4)), None),
        ]:
            program = (units, ((0, code), (2, (SHOW,))))
            self.compare(program)
            found = status_history(program, ("unit", 2), 0, "awake")
            self.assertEqual(len(found[0]) + len(found[1]), 2)
            if history is not None:
                self.assertEqual(found, history)

    def test_accesses_that_are_never_come_to(self):
        program = ((FIRST, FAILS, (None, 1, ())), ((0, (("fail",), ("read", 0, 2, 0))), (1, (("read", 0, 2, 0),))))
        self.assertEqual(self.compare(program), {})
        self.assertEqual(library_needless(program), [(("function", 0), 1), (("function", 1), 0)])
        for status in STATUSES:
            self.assertIsNone(status_history(program, ("function", 0), 1, status))


def word(program, body, place):
    return program[0 if body[0] == "unit" else 1][body[1]][-1][place][0]


class Bounds(unittest.TestCase):
    def of_lengths(self, calls, shows, second, others, third, tail):
        """Return a program of one unit whose functions call the later ones so often."""
        return nested_calls([(("call", 1), calls), (SHOW, shows)], [(("call", 2), second), (SHOW, others)],
                            [(("call", 3), third)], [(SHOW, tail)])

    def test_two_thousand(self):
        program = self.of_lengths(4, 2, 7, 1, 6, 8)
        found = library_configurations(program)
        self.assertEqual(len(found), 2000)
        self.assertIs(are_library_configurations(program, found), True)
        self.assertIs(are_library_configurations(program, {}), False)
        self.assertEqual(library_statuses(program)[(("function", 0), 0)], ("awake",))

    def test_one_more(self):
        program = self.of_lengths(6, 1, 6, 1, 5, 8)
        for call in [library_configurations, library_statuses, library_needless]:
            self.assertRaises(TooMany, call, program)
        for thing in [{}, None, library_configurations(self.of_lengths(4, 2, 7, 1, 6, 8))]:
            self.assertRaises(TooMany, are_library_configurations, program, thing)
        self.assertRaises(TooMany, status_history, program, ("function", 0), 0, "awake")
        # It is one more indeed: without one of its instructions there are few enough.
        self.assertLessEqual(len(library_configurations(self.of_lengths(6, 0, 6, 1, 5, 8))), 2000)

    def test_more_than_a_hundred_calls_and_inputs(self):
        for last, many in [(3, 100), (4, 101)]:
            program = self.with_steps(many)
            body = ("function", 0)
            place = len(program[1][0][1]) - 1
            if many == 100:
                found = status_history(program, body, place, "asleep")
                self.assertEqual(len(found[0]) + len(found[1]), 100)
                self.assertIn((body, place, "asleep"), history_run(program, found, NOTHING)[6])
            else:
                self.assertRaises(TooLong, status_history, program, body, place, "asleep")
            self.assertIsNone(status_history(program, body, place, "broken"))
            self.assertGreater(max(library_configurations(program).values()), 98)

    def with_steps(self, many):
        """Return a program whose function 0 accesses unit 1 after one call and so many inputs less one."""
        inputs = many - 1 - 64
        codes = nested_calls([(SHOW, 1)], [(("call", 2), 8)], [(("input", 0), 8)], [(("input", 0), inputs % 8 or 1)])[1]
        first = (("call", 1),) + (("call", 2),) * (inputs // 8) + (("call", 3),) * (inputs % 8 > 0) + (("read", 0, 1, 0),)
        return ((FIRST, (None, 1, ())), ((0, first), *codes[1:]))


if __name__ == "__main__":
    unittest.main()
