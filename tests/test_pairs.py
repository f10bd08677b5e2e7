"""Plans that are noticed or not: judge and shows_unnoticed, compared with executions from their beginnings."""

import random
import unittest

from firstwake.errors import TooLong, TooMany
from firstwake.pairs import judge, shows_unnoticed
from firstwake.plain import full_run
from tests.drawn import drawn_plan, drawn_program
from tests.pair_oracle import all_pairs, are_alike, is_closed, watched
from tests.samples import FIRST, JUST_FEW, OTHER_KINDS, RUN, TOO_MANY, WOKEN, nested_calls, nodes, one_function, replaced

MOST = 6
EMPTY = (None, 0, ())
HOLDS_7 = (None, 1, (("number", 0, 7), ("write", 1, 0, 0)))
FAILS = (None, 1, (("fail",),))


def plan_of(ahead=(), unchecked=(), extra=()):
    return list(ahead), list(unchecked), list(extra)


def at(place, function=0):
    return ("function", function), place


class Compared(unittest.TestCase):
    def compare(self, program, plan, most=MOST):
        """Compare judge with the oracle; return "noticed" with the number of inputs, or the pairs."""
        fewest, found = all_pairs(program, plan, most)
        result = judge(program, plan)
        with self.subTest(program=program, plan=plan):
            if result[0] == "noticed":
                inputs = result[1]
                self.assertTrue(len(inputs) == fewest if fewest is not None else len(inputs) > most)
                self.assertFalse(are_alike(watched(program, inputs, plan), watched(program, inputs)))
                self.assertNotEqual(full_run(program, inputs, plan), full_run(program, inputs, ([], [], [])))
                self.assertIs(shows_unnoticed(program, plan, list(found)), False)
                return "noticed", len(inputs)
            self.assertEqual(result[0], "unnoticed")
            pairs = result[1]
            self.assertIsNone(fewest)
            self.assertEqual(len(set(pairs)), len(pairs))
            if is_closed(found, most):
                self.assertEqual(set(pairs), set(found))
            self.assertLessEqual(set(found), set(pairs))
            self.assertIs(shows_unnoticed(program, plan, pairs), True)
            return "unnoticed", pairs


class Drawn(Compared):
    def try_plans(self, name, many, least, change):
        """Compare judge with the oracle on drawn plans that are changed so; both answers are to be frequent enough."""
        told, words = {}, set()
        for seed in range(many):
            program = drawn_program("pairs", name, seed, instructions=5)
            plan = change(drawn_plan(program, "pairs", name, seed), program)
            answer, found = self.compare(program, plan)
            key = answer if answer == "unnoticed" else found
            told[key] = told.get(key, 0) + 1
            if answer == "unnoticed":
                for _, one, other in found:
                    words.update(("last", word) for _, _, word in one[1] + other[1] if not isinstance(word, tuple))
                    words.update(("own", word) for _, _, word in one[2] + other[2] if not isinstance(word, tuple))
                    told["unequal"] = told.get("unequal", 0) + (one != other)
        for key, lowest in least.items():
            self.assertGreaterEqual(told.get(key, 0), lowest, (key, told))
        return words

    def test_units_ahead(self):
        def change(plan, program):
            dice = random.Random(repr((program, plan)))
            return plan_of(plan[0] or dice.sample(range(len(program[0])), dice.randint(1, len(program[0]))))

        self.try_plans("ahead", 500, {"unnoticed": 200, 0: 50, 1: 2, "unequal": 200}, change)

    def test_unchecked_accesses(self):
        words = self.try_plans(
            "unchecked", 500, {"unnoticed": 200, 0: 50, "unequal": 20}, lambda plan, _: plan_of((), plan[1]))
        self.assertIn(("last", "function"), words)

    def test_extra_accesses(self):
        self.try_plans("extra", 500, {"unnoticed": 200, 0: 20, 1: 3, "unequal": 60}, lambda plan, _: plan_of((), (), plan[2]))

    def test_all_together(self):
        words = self.try_plans("together", 1500, {"unnoticed": 500, 0: 200, 1: 15, 2: 1, "unequal": 300}, lambda plan, _: plan)
        self.assertLessEqual({("last", "function"), ("own", None), ("own", "function")}, words)

    def test_no_plan_at_all(self):
        for seed in range(150):
            program = drawn_program("pairs", "none", seed)
            answer, pairs = self.compare(program, plan_of())
            self.assertEqual((answer, [pair for pair in pairs if pair[1] != pair[2]]), ("unnoticed", []))


class Sentences(Compared):
    """Small programs in which one thing alone decides."""

    def assert_noticed(self, program, plan, inputs):
        self.assertEqual(self.compare(program, plan), ("noticed", inputs))

    def assert_pairs(self, program, plan, pairs):
        answer, found = self.compare(program, plan)
        self.assertEqual((answer, sorted(found)), ("unnoticed", sorted(pairs)))

    def test_words_of_the_last_writes(self):
        program = one_function([FIRST, HOLDS_7], ("write", 1, 0, 0), ("show", 0))
        fresh, woken = ("awake", "asleep"), ("awake", "awake")
        self.assert_pairs(program, plan_of(), [
            (((0, 0),), (fresh, (), ()), (fresh, (), ())),
            (((0, 1),), (woken, ((1, 0, "function"),), ()), (woken, ((1, 0, "function"),), ())),
        ])
        self.assert_pairs(program, plan_of([1]), [
            (((0, 0),), (woken, ((1, 0, (1, 1)),), ()), (fresh, (), ())),
            (((0, 1),), (woken, ((1, 0, "function"),), ()), (woken, ((1, 0, "function"),), ())),
        ])
        # Without its check the write takes place before the initializer's, which an extra access then brings about.
        self.assert_pairs(program, plan_of((), [at(0)], [(0, 1, 1)]), [
            (((0, 0),), (fresh, (), ()), (fresh, (), ())),
            (((0, 1),), (fresh, ((1, 0, "function"),), ()), (woken, ((1, 0, "function"),), ())),
        ])

    def test_words_of_own_reads(self):
        reader = (None, 0, (("read", 0, 1, 0),))
        statuses = [("awake", "awake", status) for status in ("asleep", "awake")]
        program = one_function([FIRST, (None, 1, ()), reader],
                               ("write", 1, 0, 0), ("show", 0), ("write", 1, 0, 0), ("show", 0))
        answer, pairs = self.compare(program, plan_of((), (), [(0, 1, 2)]))
        self.assertEqual(answer, "unnoticed")
        told = {stack[0][1]: (one[2], other[2]) for stack, one, other in pairs}
        self.assertEqual(told, {0: ((), ()), 1: ((), ()), 2: (((2, 0, "function"),), ()), 3: (((2, 0, "old"),), ())})
        answer, pairs = self.compare(program, plan_of([2]))
        told = {stack[0][1]: (one[2], other[2]) for stack, one, other in pairs}
        self.assertEqual(told, {place: (((2, 0, None),), ()) for place in range(4)})
        program = one_function([FIRST, HOLDS_7, reader], ("show", 0), ("show", 0))
        answer, pairs = self.compare(program, plan_of([2]))
        self.assertEqual({one for _, one, _ in pairs}, {(statuses[1], ((1, 0, (1, 1)),), ((2, 0, (1, 1)),))})

    def test_an_old_word_of_the_run_alone(self):
        # The run wakes unit 2 at its access; the plan leaves out this check, and accesses it later.
        reader = (None, 1, (("read", 0, 1, 0),))
        program = one_function([FIRST, (None, 1, ()), reader], ("write", 1, 0, 0), ("read", 0, 2, 0), ("write", 1, 0, 0),
                               ("show", 0), ("show", 0))
        answer, pairs = self.compare(program, plan_of((), [at(1)]))
        told = {stack[0][1]: (one[2], other[2]) for stack, one, other in pairs}
        self.assertEqual(answer, "unnoticed")
        self.assertEqual(told[2], ((), ((2, 0, "function"),)))
        self.assertEqual((told[3], told[4]), (((), ((2, 0, "old"),)),) * 2)
        self.assert_noticed(program, plan_of((), [at(1)], [(0, 3, 2)]), 0)
        answer, pairs = self.compare(program, plan_of((), [at(1)], [(0, 2, 2)]))
        self.assertEqual(answer, "unnoticed")
        self.assertEqual({stack[0][1]: (one[2], other[2]) for stack, one, other in pairs}[3], ((), ()))

    def test_a_field_that_another_function_write_does_not_touch_stays_fresh(self):
        reader = (None, 0, (("read", 0, 1, 1),))
        program = one_function([FIRST, (None, 2, ()), reader], ("write", 1, 1, 0), ("show", 0), ("write", 1, 0, 0), ("show", 0),
                               ("wake", 2, 5))
        answer, pairs = self.compare(program, plan_of((), (), [(0, 1, 2)]))
        self.assertEqual(answer, "unnoticed")
        self.assertEqual({one[2] for _, one, _ in pairs}, {(), ((2, 0, "function"),)})

    def test_an_instruction_that_reads_another_name(self):
        program = one_function([FIRST, HOLDS_7], ("read", 0, 1, 0))
        self.assert_noticed(program, plan_of((), [at(0)]), 0)
        self.assert_noticed(program, plan_of((), [at(0)], [(0, 0, 0)]), 0)
        self.assertEqual(self.compare(program, plan_of((), [at(0)], [(0, 0, 1)]))[0], "unnoticed")
        self.assertEqual(self.compare(program, plan_of([1], [at(0)]))[0], "unnoticed")

    def test_equal_numbers_under_other_names_are_noticed(self):
        zero = (None, 1, (("write", 1, 0, 0),))
        self.assert_noticed(one_function([FIRST, zero], ("read", 0, 1, 0)), plan_of((), [at(0)]), 0)

    def test_units_ahead_that_fail(self):
        self.assert_noticed(one_function([FIRST, FAILS], ("show", 0)), plan_of([1]), 0)
        self.assert_noticed(one_function([FIRST, FAILS], ("input", 0)), plan_of([1]), 0)
        # The run fails, too: at its first access, or at its first instruction.
        for program in [((FAILS, FAILS), ((0, (("show", 0),)),)), one_function([FIRST, FAILS], ("fail",)),
                        one_function([FIRST, FAILS], ("read", 0, 1, 0))]:
            self.assert_pairs(program, plan_of([1]), [])
        self.assert_noticed(one_function([FIRST, FAILS], ("wake", 1, 1)), plan_of([1]), 0)

    def test_units_ahead_that_fail_after_another_name_was_seen(self):
        # Unit 2 reads field 0 of unit 1 and fails; ahead it does so before a function has written it.
        units = [FIRST, (None, 1, ()), (None, 0, (("read", 0, 1, 0), ("fail",)))]
        self.assert_pairs(one_function(units, ("wake", 2, 1)), plan_of(), [
            (((0, 0),), (("awake", "asleep", "asleep"), (), ()), (("awake", "asleep", "asleep"), (), ()))])
        self.assert_pairs(((units[0], units[1], (None, 0, (("read", 0, 1, 0), ("fail",)))), ((2, (("show", 0),)),)),
                          plan_of([2]), [])
        seen = (None, 1, (("read", 0, 1, 0), ("fail",)))
        program = ((FIRST, HOLDS_7, seen), ((2, (("show", 0),)),))
        self.assert_pairs(program, plan_of([1, 2]), [])
        program = ((FIRST, (None, 1, ()), seen, (None, 0, (("write", 1, 0, 0),))), ((2, (("show", 0),)),))
        self.assert_noticed(program, plan_of([3, 2]), 0)

    def test_only_the_plan_comes_to_the_first_instruction(self):
        user = (None, 0, (("read", 0, 1, 0),))
        unchecked = [(("unit", 2), 0)]
        for code, answer in [((("show", 0),), "noticed"), ((("input", 0),), "noticed"), ((("fail",),), "unnoticed"),
                             ((("read", 0, 1, 0),), "unnoticed")]:
            program = ((FIRST, FAILS, user), ((2, code),))
            self.assertEqual(self.compare(program, plan_of((), unchecked))[0], answer)
        self.assertEqual(judge(((FIRST, FAILS, user), ((2, (("fail",),)),)), plan_of((), unchecked)), ("unnoticed", []))

    def test_a_wake_that_fails_in_one_execution_alone(self):
        # In the run unit 2 breaks, as it uses unit 1; with the plan it does not.
        units = [FIRST, FAILS, (None, 0, (("read", 0, 1, 0),))]
        unchecked = [(("unit", 2), 0)]

        def behind(*code, k):
            return one_function(units, ("wake", 2, k), *code)

        self.assertEqual(self.compare(behind(k=1), plan_of((), unchecked))[0], "unnoticed")
        self.assert_noticed(behind(("show", 0), k=2), plan_of((), unchecked), 0)
        self.assert_noticed(behind(("fail",), k=2), plan_of((), unchecked), 0)
        self.assert_noticed(behind(("fail",), ("show", 0), k=2), plan_of((), unchecked), 0)
        self.assertEqual(self.compare(behind(("fail",), ("fail",), k=2), plan_of((), unchecked))[0], "unnoticed")
        self.assertEqual(self.compare(behind(("fail",), ("read", 0, 1, 0), k=2), plan_of((), unchecked))[0], "unnoticed")
        self.assert_noticed(behind(("input", 0), ("input", 0), k=2), plan_of((), unchecked), 1)
        self.assert_noticed(behind(("branch", 2), ("input", 0), k=2), plan_of((), unchecked), 1)
        self.assert_noticed(behind(("input", 0), ("fail",), k=2), plan_of((), unchecked), 0)
        self.assert_noticed(behind(("fail",), ("input", 0), k=2), plan_of((), unchecked), 0)
        self.assert_noticed(behind(("input", 0), ("show", 0), k=2), plan_of((), unchecked), 0)
        # An extra access behind it fails in the plan's execution alone.
        extra = [(0, 1, 1)]
        self.assertEqual(self.compare(behind(("input", 0), ("fail",), k=2), plan_of((), unchecked, extra))[0], "unnoticed")
        self.assert_noticed(behind(("input", 0), ("input", 0), k=2), plan_of((), unchecked, extra), 0)

    def test_a_wake_that_fails_so_in_a_called_function(self):
        units = (FIRST, FAILS, (None, 0, (("read", 0, 1, 0),)))
        unchecked = [(("unit", 2), 0)]
        for behind, above, answer in [
            (("fail",), ("fail",), ("unnoticed", None)), (("input", 0), ("input", 0), ("noticed", 1)),
            (("fail",), ("show", 0), ("noticed", 0)), (("show", 0), ("fail",), ("noticed", 0)),
        ]:
            program = (units, ((0, (("call", 1), above)), (0, (("wake", 2, 2), behind))))
            found = self.compare(program, plan_of((), unchecked))
            self.assertEqual(found[0], answer[0])
            if answer[1] is not None:
                self.assertEqual(found, answer)

    def test_what_is_read_behind_a_wake_that_fails_so(self):
        # Both fail behind it, but an initializer that runs then sees another write in each of them.
        for seen, answer in [(4, "noticed"), (5, "unnoticed")]:
            units = (FIRST, FAILS, (None, 0, (("read", 0, 1, 0), ("write", 4, 0, 0))),
                     (None, 0, (("read", 0, seen, 0), ("fail",))), (None, 1, ()), (None, 1, ()))
            shown = (3, (("show", 0),))
            program = (units, ((0, (("wake", 2, 2), ("call", 1), ("call", 2))), shown, shown))
            self.assertEqual(self.compare(program, plan_of((), [(("unit", 2), 0)]))[0], answer)

    def test_extra_accesses_before_an_instruction_that_waits(self):
        program = one_function([FIRST, FAILS], ("show", 0), ("input", 0))
        self.assert_noticed(program, plan_of((), (), [(0, 1, 1)]), 0)
        reader = (None, 1, (("read", 0, 1, 0), ("write", 2, 0, 0)))
        program = one_function([FIRST, (None, 1, ()), reader, (None, 1, (("read", 0, 2, 0),))], ("write", 1, 0, 0),
                               ("branch", 0), ("write", 1, 0, 0), ("wake", 2, 4))
        self.assert_noticed(program, plan_of((), (), [(0, 1, 2)]), 1)

    def test_what_an_extra_access_reads_is_compared_before_the_input(self):
        # The run has read the field before the function wrote it; the plan reads it again, elsewhere, behind.
        reader = (None, 0, (("read", 0, 1, 0),))
        program = one_function([FIRST, (None, 1, ()), reader], ("wake", 2, 1), ("write", 1, 0, 0), ("input", 0))
        self.assertEqual(self.compare(program, plan_of([2]))[0], "unnoticed")
        program = ((FIRST, (None, 1, ()), reader), ((2, (("write", 1, 0, 0), ("input", 0))),))
        self.assertEqual(self.compare(program, plan_of((), (), [(0, 1, 2)]))[0], "unnoticed")
        units = [FIRST, (None, 1, ()), (None, 1, (("read", 0, 1, 0),))]
        program = one_function(units, ("read", 0, 2, 0), ("write", 1, 0, 0), ("input", 0), ("show", 0))
        self.assert_noticed(program, plan_of((), [at(0)], [(0, 2, 2)]), 0)
        self.assert_noticed(program, plan_of((), [at(0)], [(0, 3, 2)]), 1)

    def test_parents_and_called_functions(self):
        # Pairs are taken at the first instruction of a function that has just been called, and behind the call.
        program = ((FIRST, HOLDS_7, (1, 0, ())), ((0, (("call", 1), ("show", 0))), (2, (("input", 0),))))
        answer, pairs = self.compare(program, plan_of([2]))
        self.assertEqual(answer, "unnoticed")
        self.assertEqual(sorted(stack for stack, _, _ in pairs), [((0, 0),), ((0, 0), (1, 0)), ((0, 1),)])

    def test_pairs_are_taken_before_the_extra_accesses(self):
        program = one_function([FIRST, HOLDS_7], ("show", 0), ("show", 0))
        fresh, woken = ("awake", "asleep"), ("awake", "awake")
        self.assert_pairs(program, plan_of((), (), [(0, 0, 1)]), [
            (((0, 0),), (fresh, (), ()), (fresh, (), ())),
            (((0, 1),), (woken, ((1, 0, (1, 1)),), ()), (fresh, (), ())),
        ])

    def test_needless_inputs_are_not_returned(self):
        program = one_function([FIRST, HOLDS_7], ("branch", 3), ("input", 0), ("show", 0), ("read", 0, 1, 0))
        self.assertEqual(self.compare(program, plan_of((), [at(3)])), ("noticed", 1))
        self.assertNotEqual(judge(program, plan_of((), [at(3)]))[1][0], 0)

    def test_examples(self):
        for program, plan, answer in [
            (RUN, plan_of([2]), "unnoticed"), (RUN, plan_of((), [(("unit", 2), 0)]), "unnoticed"),
            (RUN, plan_of([2], [(("unit", 2), 0)]), "noticed"), (WOKEN, plan_of([2]), "noticed"),
            (WOKEN, plan_of([2, 3]), "unnoticed"),
        ]:
            self.assertEqual(self.compare(program, plan)[0], answer)


class Things(unittest.TestCase):
    """What shows_unnoticed takes, and what it does not."""

    PLAN = plan_of([1], [], [(0, 1, 2)])
    PROGRAM = one_function([FIRST, HOLDS_7, (None, 0, (("read", 0, 1, 0),))], ("write", 1, 0, 0), ("branch", 0),
                           ("write", 1, 0, 0), ("input", 0), ("show", 0))

    def setUp(self):
        answer, self.pairs = judge(self.PROGRAM, self.PLAN)
        self.assertEqual((answer, len(self.pairs) > 4), ("unnoticed", True))
        words = {word for _, one, _ in self.pairs for _, _, word in one[1] + one[2]}
        self.assertLessEqual({"function", "old", (1, 1)}, words)

    def assert_none(self, thing):
        with self.subTest(thing=thing):
            self.assertIs(shows_unnoticed(self.PROGRAM, self.PLAN, thing), False)

    def test_any_order(self):
        for seed in range(5):
            thing = list(self.pairs)
            random.Random(seed).shuffle(thing)
            self.assertIs(shows_unnoticed(self.PROGRAM, self.PLAN, thing), True)

    def test_left_out_twice_and_more(self):
        for at_pair, pair in enumerate(self.pairs):
            rest = self.pairs[:at_pair] + self.pairs[at_pair + 1:]
            self.assert_none(rest)
            self.assert_none(self.pairs + [pair])
            self.assert_none(rest + [rest[0]])
        self.assert_none([])
        for more in [(), None, 0, "", [], (((0, 5),), self.pairs[0][1], self.pairs[0][2])]:
            self.assert_none(self.pairs + [more])

    def test_other_parts(self):
        others = [None, True, False, 0, 1, 2, 10 ** 20, "", "asleep", "awake", "broken", "function", "old", (), [], {}, (0, 0)]
        for at_pair, pair in enumerate(self.pairs):
            for path, part in nodes(pair):
                for other in others:
                    if (type(other), other) != (type(part), part):
                        changed = replaced(pair, path, other)
                        self.assert_none(self.pairs[:at_pair] + [changed] + self.pairs[at_pair + 1:])

    def test_lists_in_place_of_tuples(self):
        for at_pair, pair in enumerate(self.pairs):
            for path, part in nodes(pair):
                if isinstance(part, tuple):
                    self.assert_none(self.pairs[:at_pair] + [replaced(pair, path, list(part))] + self.pairs[at_pair + 1:])

    def test_booleans_in_place_of_numbers(self):
        changes = 0
        for at_pair, pair in enumerate(self.pairs):
            for path, part in nodes(pair):
                if part in (0, 1) and not isinstance(part, tuple):
                    changed = replaced(pair, path, bool(part))
                    self.assertEqual(changed, pair)
                    self.assert_none(self.pairs[:at_pair] + [changed] + self.pairs[at_pair + 1:])
                    changes += 1
        self.assertGreater(changes, 20)

    def test_other_things(self):
        for thing in [*OTHER_KINDS, tuple(self.pairs), {pair: 0 for pair in self.pairs}, ("unnoticed", self.pairs),
                      [self.pairs], {"pairs": self.pairs}, [[self.pairs]] * len(self.pairs), [{}] * len(self.pairs)]:
            self.assert_none(thing)
        deep = self.pairs[0]
        for _ in range(60):
            deep = (deep,)
        self.assert_none([deep] + self.pairs[1:])

    def test_a_list_without_pairs(self):
        program = ((FAILS, FAILS), ((0, (("show", 0),)),))
        self.assertIs(shows_unnoticed(program, plan_of([1]), []), True)
        for thing in [(), {}, None, [()], [[]]]:
            self.assertIs(shows_unnoticed(program, plan_of([1]), thing), False)

    def test_a_noticed_plan(self):
        program = one_function([FIRST, HOLDS_7], ("read", 0, 1, 0))
        plan = plan_of((), [at(0)])
        for thing in [[], None, judge(program, plan_of())[1], judge(program, plan)]:
            self.assertIs(shows_unnoticed(program, plan, thing), False)

    def test_a_plan_that_is_changed_in_place(self):
        program = one_function([FIRST, HOLDS_7], ("read", 0, 1, 0), ("show", 0))
        plan = plan_of()
        found = [judge(program, plan)]
        plan[1].append(at(0))
        found.append(judge(program, plan))
        plan[0].append(1)
        found.append(judge(program, plan))
        self.assertEqual([answer for answer, _ in found], ["unnoticed", "noticed", "unnoticed"])
        self.assertNotEqual(found[0], found[2])
        self.assertIs(shows_unnoticed(program, plan, found[2][1]), True)
        plan[1].clear()
        plan[0].clear()
        self.assertIs(shows_unnoticed(program, plan, found[2][1]), False)
        self.assertIs(shows_unnoticed(program, plan, found[0][1]), True)


class Bounds(unittest.TestCase):
    def test_two_thousand_pairs_are_returned(self):
        answer, pairs = judge(JUST_FEW, plan_of())
        self.assertEqual((answer, len(pairs)), ("unnoticed", 2000))
        self.assertIs(shows_unnoticed(JUST_FEW, plan_of(), pairs), True)

    def test_more_are_too_many(self):
        self.assertRaises(TooMany, judge, TOO_MANY, plan_of())
        for thing in [[], None, judge(JUST_FEW, plan_of())[1]]:
            self.assertRaises(TooMany, shows_unnoticed, TOO_MANY, plan_of(), thing)

    def test_not_for_a_plan_that_is_noticed_before(self):
        units = TOO_MANY[0] + (HOLDS_7,)
        first = (0, (("read", 0, 1, 0), ("input", 0)) + TOO_MANY[1][0][1])
        program = (units, (first,) + TOO_MANY[1][1:])
        plan = plan_of((), [at(0)])
        self.assertEqual(judge(program, plan), ("noticed", []))
        self.assertIs(shows_unnoticed(program, plan, []), False)
        self.assertRaises(TooMany, judge, program, plan_of([1]))

    def long(self, inputs):
        """Return a program that reads unit 1 after this many inputs, from 64 on."""
        codes = nested_calls([(("call", 1), 1), (("call", 3), 1)], [(("call", 2), 8)], [(("input", 0), 8)],
                             [(("input", 0), 1)])[1]
        many = inputs - 64
        first = (("call", 1),) + (("call", 2),) * (many // 8) + (("call", 3),) * (many % 8 > 0) + (("read", 0, 1, 0),)
        third = (("input", 0),) * max(many % 8, 1)
        return ((FIRST, HOLDS_7), ((0, first), codes[1], codes[2], (0, third)))

    def test_up_to_a_hundred_inputs_are_returned(self):
        for many in [99, 100, 101, 104]:
            program = self.long(many)
            plan = plan_of((), [at(len(program[1][0][1]) - 1)])
            with self.subTest(many=many):
                if many <= 100:
                    answer, inputs = judge(program, plan)
                    self.assertEqual((answer, len(inputs)), ("noticed", many))
                    self.assertNotEqual(full_run(program, inputs, plan)[3], full_run(program, inputs, plan_of())[3])
                    self.assertEqual(full_run(program, inputs[:-1], plan)[0], "waits")
                else:
                    self.assertRaises(TooLong, judge, program, plan)
                self.assertIs(shows_unnoticed(program, plan, []), False)
                self.assertEqual(judge(program, plan_of())[0], "unnoticed")


if __name__ == "__main__":
    unittest.main()
