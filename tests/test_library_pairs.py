"""Plans that histories notice or not, compared with executions of whole histories from their beginnings."""

import random
import unittest

from firstwake.errors import TooLong, TooMany
from firstwake.histories import judge_library, shows_library_unnoticed
from firstwake.libraries import history_run
from firstwake.pairs import judge
from tests.drawn import drawn_plan, drawn_program
from tests.history_oracle import all_pairs, are_alike, run_history
from tests.pair_oracle import is_closed
from tests.samples import FIRST, LIBRARY, OTHER_KINDS, SHOW, nested_calls, nodes, replaced

MOST = 4
NOTHING = ([], [], [])
EMPTY = (None, 0, ())
HOLDS_7 = (None, 1, (("number", 0, 7), ("write", 1, 0, 0)))
FAILS = (None, 1, (("fail",),))
# It uses unit 1, so it breaks, but where that access is not checked.
USER = (None, 0, (("read", 0, 1, 0),))
UNCHECKED = [(("unit", 2), 0)]


def plan_of(ahead=(), unchecked=(), extra=()):
    return list(ahead), list(unchecked), list(extra)


def size(history):
    return len(history[0]) + len(history[1])


class Compared(unittest.TestCase):
    def compare(self, program, plan, most=MOST):
        """Compare judge_library with the oracle; return "noticed" with the number of steps, or the pairs."""
        fewest, found = all_pairs(program, plan, most)
        result = judge_library(program, plan)
        with self.subTest(program=program, plan=plan):
            if result[0] == "noticed":
                history = result[1]
                self.assertTrue(size(history) == fewest if fewest is not None else size(history) > most)
                self.assertFalse(are_alike(run_history(program, history, plan), run_history(program, history)))
                self.assertNotEqual(history_run(program, history, plan), history_run(program, history, NOTHING))
                self.assertIs(shows_library_unnoticed(program, plan, list(found)), False)
                return "noticed", size(history)
            self.assertEqual(result[0], "unnoticed")
            pairs = result[1]
            self.assertIsNone(fewest)
            self.assertEqual(len(set(pairs)), len(pairs))
            if is_closed(found, most):
                self.assertEqual(set(pairs), set(found))
            self.assertLessEqual(set(found), set(pairs))
            self.assertIs(shows_library_unnoticed(program, plan, pairs), True)
            return "unnoticed", pairs


class Drawn(Compared):
    def try_plans(self, name, many, least, change):
        told, words = {}, set()
        for seed in range(many):
            program = drawn_program("library pairs", name, seed, most_functions=2, instructions=3)
            answer, found = self.compare(program, change(drawn_plan(program, "library pairs", name, seed), program))
            key = answer if answer == "unnoticed" else found
            told[key] = told.get(key, 0) + 1
            if answer == "unnoticed":
                for stack, one, other in found:
                    words.update(word for _, _, word in one[2] + other[2] if not isinstance(word, tuple))
                    told["unequal"] = told.get("unequal", 0) + (one != other)
                    told["idle"] = told.get("idle", 0) + (stack == () and one != other)
        for key, lowest in least.items():
            self.assertGreaterEqual(told.get(key, 0), lowest, (key, told))
        return words

    def test_units_ahead(self):
        def change(plan, program):
            dice = random.Random(repr((program, plan)))
            return plan_of(plan[0] or dice.sample(range(len(program[0])), dice.randint(1, len(program[0]))))

        self.try_plans("ahead", 300, {"unnoticed": 100, 1: 30, "unequal": 100, "idle": 50}, change)

    def test_unchecked_accesses(self):
        self.try_plans("unchecked", 300, {"unnoticed": 100, 1: 15, "unequal": 20}, lambda plan, _: plan_of((), plan[1]))

    def test_extra_accesses(self):
        self.try_plans("extra", 300, {"unnoticed": 100, 1: 10, 2: 1, "unequal": 50}, lambda plan, _: plan_of((), (), plan[2]))

    def test_all_together(self):
        words = self.try_plans(
            "together", 900, {"unnoticed": 300, 1: 150, 2: 10, "unequal": 300, "idle": 100}, lambda plan, _: plan)
        self.assertLessEqual({None, "function", "old"}, words)

    def test_no_plan_at_all(self):
        for seed in range(100):
            program = drawn_program("library pairs", "none", seed, most_functions=2, instructions=3)
            answer, pairs = self.compare(program, plan_of())
            self.assertEqual((answer, [pair for pair in pairs if pair[1] != pair[2]]), ("unnoticed", []))

    def test_what_histories_do_not_notice_runs_do_not_notice(self):
        told = set()
        for seed in range(300):
            program = drawn_program("library pairs", "runs", seed, most_functions=2)
            plan = drawn_plan(program, "library pairs", "runs", seed)
            answers = judge_library(program, plan)[0], judge(program, plan)[0]
            told.add(answers)
        self.assertEqual(told, {("unnoticed", "unnoticed"), ("noticed", "unnoticed"), ("noticed", "noticed")})


class Sentences(Compared):
    def assert_noticed(self, program, plan, many):
        self.assertEqual(self.compare(program, plan), ("noticed", many))

    def assert_unnoticed(self, program, plan):
        answer, pairs = self.compare(program, plan)
        self.assertEqual(answer, "unnoticed")
        return pairs

    def test_the_example(self):
        plan = plan_of((), [(("function", 1), 0)])
        self.assertEqual(judge_library(LIBRARY, plan), ("noticed", ([1], [])))
        self.assertEqual(judge(LIBRARY, plan)[0], "unnoticed")

    def test_the_first_pair(self):
        program = ((FIRST, HOLDS_7), ((0, (SHOW,)),))
        pairs = self.assert_unnoticed(program, plan_of([1]))
        asleep, woken = (("asleep", "asleep"), (), ()), (("asleep", "awake"), ((1, 0, (1, 1)),), ())
        awake, both = (("awake", "asleep"), (), ()), (("awake", "awake"), ((1, 0, (1, 1)),), ())
        self.assertEqual(sorted(pairs), sorted([((), woken, asleep), (((0, 0),), both, awake), ((), both, awake)]))

    def test_an_own_read_ahead(self):
        reader = (None, 0, (("read", 0, 1, 0),))
        program = ((FIRST, (None, 1, ()), reader), ((0, (("write", 1, 0, 0),)), (0, (SHOW,))))
        pairs = self.assert_unnoticed(program, plan_of([2]))
        self.assertEqual({one[2] for _, one, _ in pairs}, {((2, 0, None),)})
        program = (program[0], program[1] + ((2, (SHOW,)),))
        self.assert_noticed(program, plan_of([2]), 2)
        self.assertEqual(judge_library(program, plan_of([2]))[1], ([0, 2], []))

    def test_words_mean_functions_of_any_call(self):
        reader = (None, 0, (("read", 0, 1, 0),))
        program = ((FIRST, (None, 1, ()), reader), ((0, (("write", 1, 0, 0),)), (0, (SHOW,)), (0, (("write", 1, 0, 0),))))
        pairs = self.assert_unnoticed(program, plan_of((), (), [(1, 0, 2)]))
        words = {word for _, one, _ in pairs for _, _, word in one[2]}
        self.assertEqual(words, {None, "function", "old"})

    def test_a_unit_ahead_that_fails(self):
        program = ((FIRST, FAILS), ((0, (SHOW,)), (1, (SHOW,))))
        answer, history = judge_library(program, plan_of([0, 1]))
        self.assertEqual((answer, len(history[0]), history[1]), ("noticed", 1, []))
        self.assert_noticed(program, plan_of([1]), 1)
        # Even where all calls of the run fail, too.
        self.assert_noticed(((FAILS,), ((0, (SHOW,)),)), plan_of([0]), 1)

    def test_an_input_that_is_needed_does_not_count(self):
        program = ((FIRST, FAILS), ((0, (("input", 0), SHOW)),))
        self.assert_noticed(program, plan_of((), (), [(0, 0, 1)]), 1)
        self.assert_noticed(program, plan_of((), (), [(0, 1, 1)]), 2)

    def test_calls_and_inputs_count_together(self):
        units = (FIRST, FAILS, EMPTY)
        program = (units, ((0, (("input", 0), ("input", 0), ("call", 2))), (0, (("wake", 2, 1),)), (0, (SHOW,))))
        self.assert_noticed(program, plan_of((), (), [(2, 0, 1)]), 1)
        self.assertEqual(judge_library(program, plan_of((), (), [(2, 0, 1)]))[1], ([2], []))
        program = (units, ((0, (("input", 0), ("call", 1))), (1, (("input", 0),))))
        self.assert_unnoticed(program, plan_of())

    def test_it_is_noticed_by_a_later_call(self):
        program = ((FIRST, (None, 1, ()), (None, 0, (("read", 0, 1, 0),))), ((0, (("write", 1, 0, 0),)), (2, (SHOW,))))
        plan = plan_of((), (), [(0, 0, 2)])
        self.assert_noticed(program, plan, 2)
        self.assertEqual(judge(program, plan)[0], "unnoticed")
        answer, history = judge_library(program, plan)
        self.assertEqual((answer, history[0]), ("noticed", [0, 1]))

    def behind(self, k, *code, more=()):
        return ((FIRST, FAILS, USER), ((0, (("wake", 2, k), *code)), *more))

    def test_a_wake_that_fails_in_one_execution_alone(self):
        plan = plan_of((), UNCHECKED)
        self.assert_unnoticed(self.behind(1), plan)
        self.assert_noticed(self.behind(2, SHOW), plan, 1)
        self.assert_noticed(self.behind(2, ("fail",)), plan, 1)
        self.assert_noticed(self.behind(2, ("fail",), SHOW), plan, 1)
        self.assert_noticed(self.behind(2, SHOW, ("fail",)), plan, 1)
        self.assert_noticed(self.behind(2, ("input", 0), ("fail",)), plan, 1)
        self.assert_noticed(self.behind(2, ("fail",), ("input", 0)), plan, 1)
        self.assert_noticed(self.behind(2, ("input", 0)), plan, 1)

    def test_both_calls_fail_so(self):
        plan = plan_of((), UNCHECKED)
        for code in [(("fail",), ("fail",)), (("fail",), ("read", 0, 1, 0))]:
            pairs = self.assert_unnoticed(self.behind(2, *code), plan)
            stacks = {stack for stack, one, other in pairs if one[0][2] != other[0][2]}
            self.assertEqual(stacks, {(), ((0, 0),)})

    def test_both_calls_fail_so_and_a_later_call_tells(self):
        plan = plan_of((), UNCHECKED)
        program = self.behind(2, ("fail",), ("fail",), more=((0, (("wake", 2, 2), SHOW)),))
        self.assert_noticed(program, plan, 1)
        self.assertEqual(judge_library(program, plan)[1], ([1], []))
        program = self.behind(2, ("fail",), ("fail",), more=((2, (SHOW,)),))
        self.assert_noticed(program, plan, 1)
        # What the initializer reads or writes is seen by a later call alone.
        units = (FIRST, FAILS, (None, 1, (("read", 0, 1, 0), ("write", 3, 0, 0))), (None, 1, ()))
        program = (units, ((0, (("wake", 2, 2), ("fail",), ("fail",))), (0, (("read", 0, 3, 0),))))
        self.assert_noticed(program, plan, 2)
        self.assertEqual(judge_library(program, plan)[1], ([0, 1], []))

    def test_both_calls_wait_so(self):
        plan = plan_of((), UNCHECKED)
        self.assert_noticed(self.behind(2, ("input", 0), ("input", 0)), plan, 2)
        self.assert_noticed(self.behind(2, ("branch", 2), ("input", 0)), plan, 2)
        self.assert_noticed(self.behind(2, ("input", 0), ("input", 0), more=((0, (SHOW,)),)), plan, 2)

    def test_only_one_first_access_fails(self):
        plan = plan_of((), UNCHECKED)
        for code, many in [((SHOW,), 1), ((("input", 0),), 1), ((("fail",),), None), ((("read", 0, 1, 0),), None)]:
            program = ((FIRST, FAILS, USER), ((0, (("wake", 1, 1),)), (2, code)))
            if many is None:
                self.assert_unnoticed(program, plan)
            else:
                self.assert_noticed(program, plan, many)

    def test_a_wake_that_fails_so_in_a_called_function(self):
        plan = plan_of((), UNCHECKED)
        for behind, above, many in [
            (("fail",), ("fail",), None), (("input", 0), ("input", 0), 2), (("fail",), SHOW, 1), (SHOW, ("fail",), 1),
        ]:
            program = ((FIRST, FAILS, USER), ((0, (("call", 1), above)), (0, (("wake", 2, 2), behind))))
            if many is None:
                # Function 1 by itself is done in one execution, and fails in the other.
                self.assert_noticed(program, plan, 1)
            else:
                self.assertEqual(self.compare(program, plan)[0], "noticed")

    def test_extra_accesses_behind_a_wake_that_fails_so(self):
        # In the second call the extra access does nothing more: its unit is broken.
        plan = plan_of((), UNCHECKED, [(0, 1, 1)])
        self.assert_noticed(self.behind(2, SHOW, ("fail",)), plan, 2)
        self.assert_noticed(self.behind(2, ("input", 0), ("fail",)), plan, 2)
        self.assert_unnoticed(self.behind(2, ("fail",), ("fail",)), plan)

    def test_extra_accesses_in_later_calls(self):
        program = ((FIRST, HOLDS_7), ((0, (SHOW, SHOW)), (0, (("read", 0, 1, 0),))))
        self.assert_unnoticed(program, plan_of((), (), [(0, 1, 1)]))
        self.assert_noticed(program, plan_of((), [(("function", 1), 0)], [(0, 1, 1)]), 1)
        self.assert_unnoticed(program, plan_of((), [(("function", 1), 0)], [(1, 0, 1)]))

    def test_names_are_counted_through_all_calls(self):
        program = ((FIRST, (None, 1, ()), (None, 0, (("read", 0, 1, 0),))), ((0, (("write", 1, 0, 0),)), (2, (SHOW,))))
        plan = plan_of((), (), [(0, 0, 2)])
        answer, history = judge_library(program, plan)
        one, other = history_run(program, history, plan)[4], history_run(program, history, NOTHING)[4]
        self.assertEqual((one, other), ({(2, 0): None}, {(2, 0): (("function", 0), 0, 0)}))
        # Between two writes of the same instruction the name is another one.
        plan = plan_of((), (), [(1, 0, 2)])
        program = (program[0], ((0, (("write", 1, 0, 0),)), (0, (SHOW,)), (2, (SHOW,))))
        self.assert_noticed(program, plan, 3)


class Things(unittest.TestCase):
    PROGRAM = (
        (FIRST, HOLDS_7, (None, 0, (("read", 0, 1, 0),))),
        ((0, (("write", 1, 0, 0), ("branch", 2))), (0, (("input", 0), ("write", 1, 0, 0)))),
    )
    PLAN = plan_of([1], [], [(0, 1, 2)])

    def setUp(self):
        answer, self.pairs = judge_library(self.PROGRAM, self.PLAN)
        self.assertEqual((answer, len(self.pairs) > 8), ("unnoticed", True))
        words = {word for _, one, _ in self.pairs for _, _, word in one[1] + one[2]}
        self.assertLessEqual({"function", "old", (1, 1)}, words)

    def assert_none(self, thing):
        with self.subTest(thing=thing):
            self.assertIs(shows_library_unnoticed(self.PROGRAM, self.PLAN, thing), False)

    def test_any_order(self):
        for seed in range(5):
            thing = list(self.pairs)
            random.Random(seed).shuffle(thing)
            self.assertIs(shows_library_unnoticed(self.PROGRAM, self.PLAN, thing), True)

    def test_left_out_twice_and_more(self):
        for at, pair in enumerate(self.pairs):
            rest = self.pairs[:at] + self.pairs[at + 1:]
            self.assert_none(rest)
            self.assert_none(self.pairs + [pair])
            self.assert_none(rest + [rest[0]])
        for more in [(), None, 0, "", [], (((0, 2),), self.pairs[0][1], self.pairs[0][2])]:
            self.assert_none(self.pairs + [more])

    def test_other_parts(self):
        others = [None, True, False, 0, 1, 2, 10 ** 20, "", "asleep", "awake", "broken", "function", "old", (), [], {}, (0, 0)]
        for at, pair in enumerate(self.pairs):
            for path, part in nodes(pair):
                for other in others:
                    if (type(other), other) != (type(part), part):
                        changed = replaced(pair, path, other)
                        if changed not in self.pairs or isinstance(other, bool):
                            self.assert_none(self.pairs[:at] + [changed] + self.pairs[at + 1:])

    def test_lists_and_booleans(self):
        for at, pair in enumerate(self.pairs):
            for path, part in nodes(pair):
                changed = None
                if isinstance(part, tuple):
                    changed = replaced(pair, path, list(part))
                elif part in (0, 1):
                    changed = replaced(pair, path, bool(part))
                    self.assertEqual(changed, pair)
                if changed is not None:
                    self.assert_none(self.pairs[:at] + [changed] + self.pairs[at + 1:])

    def test_other_things(self):
        for thing in [*OTHER_KINDS, tuple(self.pairs), {pair: 0 for pair in self.pairs}, [self.pairs], [[]] * len(self.pairs),
                      judge_library(self.PROGRAM, plan_of())[1], judge(self.PROGRAM, self.PLAN)[1]]:
            self.assert_none(thing)

    def test_noticed_plans(self):
        program = ((FIRST, FAILS), ((0, (SHOW,)),))
        for plan in [plan_of([1]), plan_of((), (), [(0, 0, 1)])]:
            for thing in [[], None, judge_library(program, plan_of())[1], [((), (("asleep",) * 2, (), ()), (("asleep",) * 2, (), ()))]]:
                self.assertIs(shows_library_unnoticed(program, plan, thing), False)

    def test_a_plan_that_is_changed_in_place(self):
        plan = plan_of()
        found = [judge_library(LIBRARY, plan)]
        plan[1].append((("function", 1), 0))
        found.append(judge_library(LIBRARY, plan))
        plan[0].append(1)
        found.append(judge_library(LIBRARY, plan))
        self.assertEqual([answer for answer, _ in found], ["unnoticed", "noticed", "unnoticed"])
        self.assertIs(shows_library_unnoticed(LIBRARY, plan, found[2][1]), True)
        self.assertIs(shows_library_unnoticed(LIBRARY, plan, found[0][1]), False)


class Bounds(unittest.TestCase):
    def of_lengths(self, calls, shows, second, others, third, tail):
        return nested_calls([(("call", 1), calls), (SHOW, shows)], [(("call", 2), second), (SHOW, others)],
                            [(("call", 3), third)], [(SHOW, tail)])

    def test_two_thousand_pairs_and_one_more(self):
        program = self.of_lengths(4, 2, 7, 1, 6, 8)
        answer, pairs = judge_library(program, plan_of())
        self.assertEqual((answer, len(pairs)), ("unnoticed", 2000))
        self.assertIs(shows_library_unnoticed(program, plan_of(), pairs), True)
        program = self.of_lengths(6, 1, 6, 1, 5, 8)
        self.assertRaises(TooMany, judge_library, program, plan_of())
        for thing in [[], None, pairs]:
            self.assertRaises(TooMany, shows_library_unnoticed, program, plan_of(), thing)

    def test_more_than_a_hundred_calls_and_inputs(self):
        for many in [100, 101]:
            inputs = many - 1 - 64
            codes = nested_calls([(SHOW, 1)], [(("call", 2), 8)], [(("input", 0), 8)], [(("input", 0), inputs % 8 or 1)])[1]
            first = (("call", 1),) + (("call", 2),) * (inputs // 8) + (("call", 3),) * (inputs % 8 > 0) + (("read", 0, 1, 0),)
            program = ((FIRST, HOLDS_7), ((0, first), *codes[1:]))
            plan = plan_of((), [(("function", 0), len(first) - 1)])
            if many == 100:
                answer, history = judge_library(program, plan)
                self.assertEqual((answer, size(history)), ("noticed", 100))
                self.assertNotEqual(history_run(program, history, plan)[3], history_run(program, history, NOTHING)[3])
            else:
                self.assertRaises(TooLong, judge_library, program, plan)
            self.assertIs(shows_library_unnoticed(program, plan, []), False)


if __name__ == "__main__":
    unittest.main()
