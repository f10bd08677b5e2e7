"""Configurations, compared with those that the oracle comes to with all inputs of 0 and 1."""

import unittest

from firstwake.errors import TooMany
from firstwake.walks import are_configurations, configurations
from tests.drawn import drawn_program
from tests.oracle import all_executions
from tests.samples import (
    BROKEN, EXAMPLES, FIRST, JUST_FEW, OTHER_KINDS, RUN, SHOW, TOO_MANY, nested_calls, nodes, one_function, replaced,
)

# One with loops, calls, wakes of units that break and that do not, and several numbers of inputs.
MIXED = (
    (FIRST, (None, 1, (("fail",),)), (1, 0, ()), (None, 2, (("write", 3, 1, 0),))),
    ((0, (("branch", 3), ("wake", 2, 2), ("call", 1), ("branch", 0), ("read", 0, 3, 0))),
     (3, (("input", 0), ("write", 3, 0, 0), ("branch", 0)))),
)


def brute(program, most):
    """Return a dict from the configurations that runs with up to so many inputs come to to their least number."""
    found = {}
    for _, execution in all_executions(program, most):
        for configuration, taken in execution.comings:
            found[configuration] = min(taken, found.get(configuration, taken))
    return found


class Configurations(unittest.TestCase):
    def test_straight_on(self):
        self.assertEqual(configurations(RUN), {
            (((0, 0),), ("awake", "asleep", "asleep"), ()): 0,
            (((0, 1),), ("awake", "awake", "asleep"), ((1, 0),)): 0,
            (((0, 2),), ("awake", "awake", "awake"), ((1, 0), (2, 0))): 0,
        })

    def test_inputs_before(self):
        program = one_function([FIRST], ("input", 0), ("show", 0), ("branch", 4), ("input", 0), ("show", 0))
        statuses, found = ("awake",), configurations(program)
        self.assertEqual(found, {(((0, place),), statuses, ()): least for place, least in enumerate([0, 1, 1, 2, 2])})

    def test_a_loop(self):
        program = one_function([FIRST, (None, 1, ())], ("branch", 2), ("write", 1, 0, 0), ("branch", 0))
        self.assertEqual(configurations(program), {
            (((0, 0),), ("awake", "asleep"), ()): 0, (((0, 1),), ("awake", "asleep"), ()): 1,
            (((0, 2),), ("awake", "asleep"), ()): 1, (((0, 2),), ("awake", "awake"), ((1, 0),)): 1,
            (((0, 0),), ("awake", "awake"), ((1, 0),)): 2, (((0, 1),), ("awake", "awake"), ((1, 0),)): 3,
        })

    def test_the_least_number_of_several(self):
        # Place 4 is come to with three inputs by the first way, and with two by another one that is found later.
        program = one_function([FIRST], ("branch", 4), ("branch", 5), ("input", 0), ("input", 0), ("branch", 6),
                               ("input", 0), ("show", 0))
        least = {place: many for ((_, place),), many in
                 [(configuration[0], many) for configuration, many in configurations(program).items()]}
        self.assertEqual(least, {0: 0, 1: 1, 2: 2, 3: 3, 4: 1, 5: 2, 6: 2})

    def test_ways_without_inputs_are_shorter(self):
        # A failing "wake" leads straight to place 3; a "branch" leads there, too.
        units = [FIRST, (None, 0, (("fail",),))]
        program = one_function(units, ("wake", 1, 3), ("input", 0), ("input", 0), ("show", 0))
        self.assertEqual(configurations(program), {
            (((0, 0),), ("awake", "asleep"), ()): 0, (((0, 3),), ("awake", "broken"), ()): 0})

    def test_calls(self):
        program = ((FIRST, (None, 0, ())), ((0, (("call", 1), ("call", 1))), (1, (("input", 0),))))
        self.assertEqual(configurations(program), {
            (((0, 0),), ("awake", "asleep"), ()): 0, (((0, 0), (1, 0)), ("awake", "awake"), ()): 0,
            (((0, 1),), ("awake", "awake"), ()): 1, (((0, 1), (1, 0)), ("awake", "awake"), ()): 1,
        })

    def test_written_fields(self):
        units = [(None, 3, (("write", 0, 2, 0), ("write", 1, 0, 0))), (None, 1, (("fail",),))]
        program = one_function([(None, 3, (("write", 0, 2, 0),)), (None, 2, ())], ("write", 1, 1, 0), ("write", 0, 0, 0),
                               ("write", 1, 1, 1), ("show", 0))
        self.assertEqual([written for _, _, written in configurations(program)],
                         [((0, 2),), ((0, 2), (1, 1)), ((0, 0), (0, 2), (1, 1)), ((0, 0), (0, 2), (1, 1))])
        self.assertEqual(configurations(one_function(units, ("show", 0))), {})

    def test_no_run_comes_to_an_instruction(self):
        self.assertEqual(configurations((((None, 0, (("fail",),)),), ((0, (("show", 0),)),))), {})
        self.assertIs(are_configurations((((None, 0, (("fail",),)),), ((0, (("show", 0),)),)), {}), True)

    def test_drawn_programs(self):
        compared = 0
        for seed in range(400):
            program = drawn_program("walks", seed)
            found = configurations(program)
            expected = brute(program, 6)
            self.assertEqual({one: many for one, many in found.items() if many <= 6}, expected)
            compared += len(found)
        self.assertGreater(compared, 1000)

    def test_examples(self):
        for program in [*EXAMPLES, MIXED]:
            self.assertEqual(configurations(program), brute(program, 8))

    def test_bound(self):
        self.assertEqual(len(configurations(JUST_FEW)), 2000)
        self.assertIs(are_configurations(JUST_FEW, configurations(JUST_FEW)), True)
        self.assertIs(are_configurations(JUST_FEW, {}), False)
        with self.assertRaises(TooMany):
            configurations(TOO_MANY)
        for thing in [{}, None, configurations(JUST_FEW)]:
            with self.assertRaises(TooMany):
                are_configurations(TOO_MANY, thing)

    def test_more_inputs_than_a_call_may_pass(self):
        program = nested_calls([(("call", 1), 3), (SHOW, 1)], [(("call", 2), 8)], [(("input", 0), 8)])
        found = configurations(program)
        self.assertEqual((len(found), max(found.values())), (3 * (1 + 8 * 9) + 1, 3 * 64))
        self.assertEqual(found[(((0, 3),), ("awake",), ())], 192)
        self.assertEqual(found[(((0, 2), (1, 7), (2, 7)), ("awake",), ())], 191)
        self.assertIs(are_configurations(program, found), True)

    def test_returned_dicts_are_new(self):
        found = configurations(MIXED)
        found.clear()
        self.assertNotEqual(configurations(MIXED), {})


class AreConfigurations(unittest.TestCase):
    def assert_none(self, program, thing):
        with self.subTest(thing=thing):
            self.assertIs(are_configurations(program, thing), False)

    def test_the_dict_in_any_order(self):
        for program in [*EXAMPLES, MIXED]:
            found = configurations(program)
            self.assertIs(are_configurations(program, found), True)
            self.assertIs(are_configurations(program, dict(reversed(found.items()))), True)
            self.assertIs(are_configurations(program, dict(sorted(found.items()))), True)

    def test_left_out_and_put_in(self):
        found = configurations(MIXED)
        for key in found:
            self.assert_none(MIXED, {other: found[other] for other in found if other != key})
        for key in [(), (((0, 0),), ("awake",) * 4, ((0, 0),)), 0, "", None, (((0, 5),), ("awake",) * 4, ())]:
            self.assert_none(MIXED, {**found, key: 0})
        self.assert_none(MIXED, {})

    def test_another_number(self):
        found = configurations(MIXED)
        for key, many in found.items():
            for other in [many + 1, many - 1, -1, 10 ** 20, None, "0", str(many), (many,), [many], True, False, {}]:
                self.assert_none(MIXED, {**found, key: other})

    def test_another_part_of_a_key(self):
        found = configurations(MIXED)
        self.assertGreater(len(found), 10)
        for key, many in found.items():
            rest = {other: found[other] for other in found if other != key}
            for path, part in nodes(key):
                for other in [None, True, False, 0, 1, 2, -1, "", "asleep", "awake", "broken", "waking", (), (part,)]:
                    changed = replaced(key, path, other)
                    if other != part or isinstance(other, bool) != isinstance(part, bool):
                        if changed not in rest:
                            self.assert_none(MIXED, {**rest, changed: many})

    def test_booleans_in_keys(self):
        for program in [BROKEN, MIXED, RUN]:
            found = configurations(program)
            changes = 0
            for key, many in found.items():
                for path, part in nodes(key):
                    if part in (0, 1) and isinstance(part, int):
                        changed = replaced(key, path, bool(part))
                        self.assertEqual(changed, key)
                        thing = {(changed if other == key else other): found[other] for other in found}
                        self.assertEqual(thing, found)
                        self.assert_none(program, thing)
                        changes += 1
            self.assertGreater(changes, 0)

    def test_booleans_as_numbers(self):
        found = configurations(BROKEN)
        self.assertEqual(sorted(found.values()), [0, 1])
        for key, many in found.items():
            self.assertEqual({**found, key: bool(many)}, found)
            self.assert_none(BROKEN, {**found, key: bool(many)})

    def test_other_things(self):
        found = configurations(RUN)
        for thing in [*OTHER_KINDS, list(found), list(found.items()), tuple(found.items()), (found,), [found],
                      {1: found}, {many: key for key, many in found.items()}, configurations(MIXED)]:
            self.assert_none(RUN, thing)


if __name__ == "__main__":
    unittest.main()
