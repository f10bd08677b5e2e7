"""What the document says of histories and of callers together, tried on many drawn programs."""

import itertools
import random
import unittest

from firstwake.callers import caller_state
from firstwake.checks import needless
from firstwake.errors import TooMany
from firstwake.guards import cycle_schedule, find_schedule, guard, half, spared
from firstwake.histories import judge_library, library_needless, library_statuses, status_history
from firstwake.libraries import Session, history_run
from firstwake.pairs import judge, longest, quiet
from firstwake.placements import is_placement, placed
from firstwake.plain import full_run
from firstwake.programs import accesses
from firstwake.reaches import loops, reach
from firstwake.schedules import deadlock
from tests.drawn import drawn_inputs, drawn_locking, drawn_plan, drawn_program
from tests.test_callers import drawn_callers, drawn_unchecked, word

NOTHING = ([], [], [])


def are_alike(one, other):
    """Tell whether two results of history_run are of alike executions."""
    same = (one[0], one[2], one[3]) == (other[0], other[2], other[3])
    return same and all(other[4][spot] == name for spot, name in one[4].items() if spot in other[4])


def drawn_history(program, *seed):
    dice = random.Random(repr(seed))
    return [dice.randrange(len(program[1])) for _ in range(dice.choice([1, 2, 3, 5]))], drawn_inputs(*seed)


def failing_units(program):
    return {unit for unit, (_, _, code) in enumerate(program[0]) if ("fail",) in code}


def does_fail(program, ahead):
    return bool({other for unit in ahead for other in reach(program, unit)} & failing_units(program))


class Histories(unittest.TestCase):
    def test_a_run_is_a_history_of_one_call(self):
        for seed in range(300):
            program, inputs, plan = drawn_program("a run", seed), drawn_inputs("a run", seed), NOTHING
            if seed % 2:
                plan = drawn_plan(program, "a run", seed)
            if not does_fail(program, plan[0]):
                end, output, path, *rest = full_run(program, inputs, plan)
                self.assertEqual(history_run(program, ([0], inputs), plan), ([end], output, [path], *rest))

    def test_alike_executions_output_the_same(self):
        alike = 0
        for seed in range(600):
            program = drawn_program("alike histories", seed)
            plan, history = drawn_plan(program, "alike histories", seed), drawn_history(program, "alike histories", seed)
            one, other = history_run(program, history, plan), history_run(program, history, NOTHING)
            if are_alike(one, other):
                self.assertEqual(one[1], other[1])
                alike += one != other
        self.assertGreater(alike, 50)

    def test_what_histories_do_not_notice_is_unnoticed(self):
        told = {}
        for seed in range(400):
            program = drawn_program("unnoticed", seed)
            plan = drawn_plan(program, "unnoticed", seed)
            answer, found = judge_library(program, plan)
            told[answer] = told.get(answer, 0) + 1
            if answer == "unnoticed":
                self.assertEqual(judge(program, plan)[0], "unnoticed")
                for at in range(3):
                    history = drawn_history(program, "unnoticed", seed, at)
                    one, other = history_run(program, history, plan), history_run(program, history, NOTHING)
                    self.assertTrue(are_alike(one, other))
                    self.assertEqual(one[1], other[1])
            else:
                self.assertFalse(are_alike(history_run(program, found, plan), history_run(program, found, NOTHING)))
        self.assertGreater(min(told.values()), 50)

    def test_library_needless_is_a_part_of_needless(self):
        smaller = 0
        for seed in range(300):
            program = drawn_program("needless part", seed)
            part, whole = library_needless(program), needless(program)
            self.assertLessEqual(set(part), set(whole))
            self.assertEqual(part, sorted(part))
            smaller += part != whole
        self.assertGreater(smaller, 50)

    def test_units_ahead_that_do_not_fail_change_no_path_and_no_end(self):
        changed = 0
        for seed in range(400):
            program = drawn_program("paths of histories", seed)
            dice = random.Random(repr(("paths of histories", seed)))
            ahead = dice.sample(range(len(program[0])), dice.randint(1, len(program[0])))
            if not does_fail(program, ahead):
                history = drawn_history(program, "paths of histories", seed)
                one, other = history_run(program, history, (ahead, [], [])), history_run(program, history, NOTHING)
                self.assertEqual((one[0], one[2]), (other[0], other[2]))
                changed += one != other
        self.assertGreater(changed, 100)

    def test_library_needless_accesses_unchecked_change_nothing(self):
        for seed in range(300):
            program = drawn_program("needless histories", seed)
            unchecked = library_needless(program)
            for at in range(3):
                history = drawn_history(program, "needless histories", seed, at)
                self.assertEqual(history_run(program, history, ([], unchecked, [])), history_run(program, history, NOTHING))
            self.assertEqual(judge_library(program, ([], unchecked, []))[0], "unnoticed")

    def test_what_is_said_of_finds_some_history_does(self):
        for seed in range(150):
            program = drawn_program("finds said", seed)
            told = library_statuses(program)
            for (body, place), found in told.items():
                for status in found:
                    history = status_history(program, body, place, status)
                    self.assertIn((body, place, status), history_run(program, history, NOTHING)[6])
            for at in range(3):
                for body, place, status in history_run(program, drawn_history(program, "finds said", seed, at), NOTHING)[6]:
                    self.assertIn(status, told[(body, place)])

    def test_a_session_records_what_history_run_returns(self):
        for seed in range(150):
            program = drawn_program("recorded", seed)
            plan = drawn_plan(program, "recorded", seed)
            session = Session(program, plan)
            dice = random.Random(repr(("recorded", seed)))
            for _ in range(25):
                choice = dice.random()
                if choice < 0.5 and session.stands() == "idle":
                    session.call(dice.randrange(len(program[1])))
                elif choice < 0.8:
                    session.feed(dice.choice([0, 1, 9]))
                else:
                    # The newest mark may be gone back to, too.
                    newest = session.mark()
                    if choice > 0.9:
                        session.back(dice.randrange(newest + 1))
                self.assertEqual(session.record(), history_run(program, session.history(), plan))


class Plans(unittest.TestCase):
    def test_a_quiet_unit_at_any_placement(self):
        for seed in range(150):
            program = drawn_program("quiet placed", seed, most_units=3, instructions=2)
            for unit in range(len(program[0])):
                if quiet(program, unit) is None:
                    for places in itertools.chain.from_iterable(
                            itertools.combinations(range(len(program[1][0][1])), many) for many in range(3)):
                        if is_placement(program, 0, unit, list(places)):
                            self.assertEqual(judge(program, placed(program, 0, unit, list(places)))[0], "unnoticed")

    def test_longest_orders_are_unnoticed(self):
        for seed in range(100):
            program = drawn_program("longest holds", seed, most_units=4)
            self.assertEqual(judge(program, (longest(program), [], []))[0], "unnoticed")


class Callers(unittest.TestCase):
    def cases(self, name, many, most=3):
        """Yield programs with callers and units ahead, as drawn."""
        for seed in range(many):
            program = drawn_locking(name, seed, most_units=3, most_functions=2)
            dice = random.Random(repr((name, seed)))
            ahead = dice.sample(range(len(program[0])), dice.choice([0, 0, 1]))
            if caller_state(program, (0,), ahead) != "failed":
                yield program, drawn_callers(program, dice, most), ahead, dice

    def test_half_and_spared_say_the_same(self):
        told = {}
        for program, callers, ahead, dice in self.cases("half and spared", 400):
            unchecked = drawn_unchecked(program, dice)
            try:
                answer, found = half(program, callers, ahead, unchecked)
                free = spared(program, callers, ahead)
                schedules = [find_schedule(program, callers, ahead, body, place, one)
                             for body, place in unchecked for one in ("asleep", "broken", "other")]
            except TooMany:
                continue
            told[answer] = told.get(answer, 0) + 1
            self.assertEqual(answer == "never", set(unchecked) <= set(free))
            lengths = [len(schedule) for schedule in schedules if schedule is not None]
            if answer == "half":
                self.assertEqual(len(found), min(lengths))
            else:
                self.assertEqual(lengths, [])
        self.assertGreater(min(told.values()), 50)

    def test_spared_of_one_caller(self):
        for seed in range(250):
            program = drawn_program("spared", seed, most_functions=2, instructions=3)
            self.assertEqual(spared(program, (0,), []), needless(program))
            self.assertEqual(spared(program, ("open",), []), library_needless(program))

    def test_cycles_and_deadlocks_of_numbers(self):
        told = set()
        for program, callers, ahead, dice in self.cases("numbers", 400):
            starts = tuple(dice.randrange(len(program[1])) for _ in callers)
            try:
                dead = deadlock(program, starts, ahead)[0] == "deadlock"
                cycle = cycle_schedule(program, starts, ahead) is not None
            except TooMany:
                continue
            self.assertEqual(dead, cycle)
            told.add(dead)
        self.assertEqual(told, {True, False})

    def test_units_ahead_that_do_not_fail(self):
        fewer = 0
        for program, callers, _, dice in self.cases("more ahead", 300, 2):
            ahead = dice.sample(range(len(program[0])), dice.randint(1, len(program[0])))
            part = ahead[:dice.randrange(len(ahead))]
            if does_fail(program, ahead):
                continue
            try:
                before = cycle_schedule(program, callers, part), spared(program, callers, part), half(program, callers, part, [])[1]
                behind = cycle_schedule(program, callers, ahead), spared(program, callers, ahead), half(program, callers, ahead, [])[1]
            except TooMany:
                continue
            self.assertTrue(behind[0] is None or before[0] is not None)
            self.assertLessEqual(set(before[1]), set(behind[1]))
            self.assertLessEqual(len(behind[2]), len(before[2]))
            fewer += len(behind[2]) < len(before[2])
        self.assertGreater(fewer, 50)

    def test_without_loops_there_is_no_cycle(self):
        told = set()
        for program, callers, ahead, _ in self.cases("no loops", 400):
            try:
                found = cycle_schedule(program, callers, ahead)
            except TooMany:
                continue
            told.add((loops(program) == (), found is None))
            if loops(program) == ():
                self.assertIsNone(found)
        self.assertEqual(told, {(True, True), (False, True), (False, False)})

    def test_what_is_guarded_stays_so(self):
        guarded = 0
        for program, _, _, dice in self.cases("stays guarded", 120):
            spots = drawn_unchecked(program, dice)[:1]
            prices = tuple(dice.randrange(4) for _ in program[0])
            try:
                price, units, bars = guard(program, ("open", "open"), spots, prices)
                if units is None:
                    continue
                others = [one for one in range(len(program[0])) if one not in units]
                more = list(units) + dice.sample(others, dice.randint(0, len(others)))
                if not does_fail(program, more):
                    self.assertLessEqual(set(spots), set(spared(program, ("open", "open"), more)))
                    self.assertIsNone(cycle_schedule(program, ("open", "open"), more))
                for callers in itertools.product([*range(len(program[1])), "open"], repeat=2):
                    self.assertLessEqual(set(spots), set(spared(program, callers, list(units))))
                    self.assertIsNone(cycle_schedule(program, callers, list(units)))
                guarded += units != ()
            except TooMany:
                continue
        self.assertGreater(guarded, 10)

    def test_spared_checks_change_no_states(self):
        for program, callers, ahead, _ in self.cases("spared states", 200, 2):
            try:
                free = spared(program, callers, ahead)
                self.assertEqual(half(program, callers, ahead, free), half(program, callers, ahead, []))
            except TooMany:
                continue

    def test_words_of_wakes_are_told_but_never_spared(self):
        for program, callers, ahead, _ in self.cases("wakes", 100, 2):
            try:
                free = spared(program, callers, ahead)
            except TooMany:
                continue
            self.assertEqual([access for access in free if word(program, *access) == "wake"], [])
            self.assertLessEqual(set(free), set(accesses(program)))


if __name__ == "__main__":
    unittest.main()
