"""What holds for all programs, tried on many drawn ones, and executions compared with those of the oracle."""

import random
import unittest

from firstwake.checks import early_reads, early_run, needless, status_run, statuses
from firstwake.plain import full_run, run, woken_run
from firstwake.programs import accesses, is_plan, is_program
from firstwake.reaches import reach
from tests.drawn import drawn_inputs, drawn_plan, drawn_program
from tests.oracle import execute
from tests.samples import records

NOTHING = ([], [], [])


def failing_units(program):
    return {unit for unit, (_, _, code) in enumerate(program[0]) if ("fail",) in code}


class Executions(unittest.TestCase):
    def test_as_the_oracle(self):
        ends = {}
        for seed in range(1200):
            program = drawn_program("executions", seed)
            inputs, plan = drawn_inputs("executions", seed), drawn_plan(program, "executions", seed)
            self.assertTrue(is_program(program) and is_plan(program, plan), (program, plan))
            with self.subTest(seed=seed):
                expected = execute(program, inputs, plan).records()
                self.assertEqual(full_run(program, inputs, plan), expected)
                self.assertEqual(full_run(program, inputs, NOTHING), execute(program, inputs).records())
                self.assertEqual(run(program, inputs), execute(program, inputs).records()[:2])
                ends[expected[0]] = ends.get(expected[0], 0) + 1
        self.assertGreater(min(ends["done"], ends["failed"], ends["waits"]), 100)

    def test_woken_runs_as_the_oracle(self):
        changed = 0
        for seed in range(250):
            program, inputs = drawn_program("woken", seed), drawn_inputs("woken", seed)
            plain = full_run(program, inputs, NOTHING)
            for unit in range(len(program[0])):
                for moment in range(len(plain[2]) + 2):
                    found = woken_run(program, inputs, unit, moment)
                    self.assertEqual(found, execute(program, inputs, woken=(unit, moment)).records())
                    changed += found != plain
                self.assertEqual(woken_run(program, inputs, unit, len(plain[2]) + 1), plain)
        self.assertGreater(changed, 300)


class WhatHolds(unittest.TestCase):
    """The sentences of the document's point 18 about runs, units and checks."""

    def drawn(self, name, many):
        for seed in range(many):
            program = drawn_program(name, seed)
            yield program, [drawn_inputs(name, seed, at) for at in range(3)], seed

    def test_units_that_reach_no_failing_unit_are_never_broken(self):
        for program, several, seed in self.drawn("broken", 300):
            safe = {unit for unit in range(len(program[0])) if not failing_units(program) & set(reach(program, unit))}
            for inputs in several:
                for plan in [NOTHING, drawn_plan(program, "broken", seed)]:
                    execution = execute(program, inputs, plan)
                    self.assertEqual([unit for unit in safe if execution.statuses[unit] == "broken"], [])
                    found = full_run(program, inputs, plan)[6]
                    self.assertEqual([find for find in found if find[2] == "broken" and used(program, find) in safe], [])

    def test_accesses_ahead_fail_if_they_reach_a_failing_unit(self):
        dice = random.Random("ahead")
        fails = 0
        for program, several, _ in self.drawn("ahead", 400):
            ahead = dice.sample(range(len(program[0])), dice.randint(1, len(program[0])))
            reached = {other for unit in ahead for other in reach(program, unit)}
            found = records(program, several[0], (ahead, [], []))
            is_failing = bool(reached & failing_units(program))
            fails += is_failing
            # What was woken ahead and did not break is awake.
            early = {unit for unit, moment in found["order"] if moment == -1}
            if is_failing:
                self.assertEqual((found["end"], found["path"]), ("failed", []))
                self.assertLessEqual(early, reached)
            else:
                self.assertEqual(early, reached)
        self.assertGreater(fails, 50)

    def test_units_ahead_that_do_not_fail_change_no_path_and_no_end(self):
        dice = random.Random("paths")
        compared = 0
        for program, several, _ in self.drawn("paths", 400):
            ahead = dice.sample(range(len(program[0])), dice.randint(1, len(program[0])))
            if not {other for unit in ahead for other in reach(program, unit)} & failing_units(program):
                for inputs in several:
                    found, plain = full_run(program, inputs, (ahead, [], [])), full_run(program, inputs, NOTHING)
                    self.assertEqual((found[0], found[2]), (plain[0], plain[2]))
                    compared += found != plain
        self.assertGreater(compared, 200)

    def test_alike_executions_output_the_same(self):
        alike = 0
        for program, several, seed in self.drawn("alike", 400):
            plan = drawn_plan(program, "alike", seed)
            for inputs in several:
                one, other = full_run(program, inputs, plan), full_run(program, inputs, NOTHING)
                both = set(one[4]) & set(other[4])
                if (one[0], one[2], one[3]) == (other[0], other[2], other[3]) and all(one[4][k] == other[4][k] for k in both):
                    self.assertEqual(one[1], other[1])
                    alike += one != other
        self.assertGreater(alike, 50)

    def test_needless_checks_change_nothing(self):
        spared = 0
        for program, several, seed in self.drawn("needless", 300):
            unchecked = needless(program)
            random.Random(seed).shuffle(unchecked)
            for inputs in several:
                for part in [unchecked, unchecked[::2]]:
                    self.assertEqual(full_run(program, inputs, ([], part, [])), full_run(program, inputs, NOTHING))
            spared += len(unchecked)
        self.assertGreater(spared, 300)

    def test_a_check_that_is_not_needless_does_something(self):
        for program, _, _ in self.drawn("needed", 150):
            for body, place in accesses(program):
                if is_checked(program, body, place) and (body, place) not in needless(program):
                    found = [status_run(program, body, place, status) for status in ("asleep", "broken")]
                    self.assertNotEqual(found, [None, None])

    def test_what_is_said_of_runs_is_done_by_some(self):
        for program, _, _ in self.drawn("some", 150):
            for (body, place), found in statuses(program).items():
                for status in found:
                    inputs = status_run(program, body, place, status)
                    self.assertIn((body, place, status), full_run(program, inputs, NOTHING)[6])
            for body, place in early_reads(program):
                own = full_run(program, early_run(program, body, place), NOTHING)[4]
                self.assertIsNone(own[(body[1], place)])

    def test_what_runs_do_is_said(self):
        for program, several, _ in self.drawn("said", 300):
            told, early, unneeded = statuses(program), early_reads(program), needless(program)
            for inputs in several:
                for body, place, status in full_run(program, inputs, NOTHING)[6]:
                    self.assertIn(status, told[(body, place)])
                    self.assertFalse(status in ("asleep", "broken") and (body, place) in unneeded)
                self.assertLessEqual(set(execute(program, inputs).early), set(early))

    def test_equal_calls_return_equal_results(self):
        for program, several, seed in self.drawn("equal", 100):
            plan = drawn_plan(program, "equal", seed)
            first, second = [full_run(program, several[0], plan) for _ in range(2)]
            self.assertEqual(first, second)
            parts = [part for part in first + second if isinstance(part, (list, dict))]
            self.assertEqual(len({id(part) for part in parts}), 12)


def instruction_at(program, body, place):
    return program[0 if body[0] == "unit" else 1][body[1]][-1][place]


def is_checked(program, body, place):
    return instruction_at(program, body, place)[0] != "wake"


def used(program, find):
    """Return the unit that the found access is of."""
    word, *operands = instruction_at(program, find[0], find[1])
    return {"read": lambda: operands[1], "write": lambda: operands[0], "wake": lambda: operands[0],
            "call": lambda: program[1][operands[0]][0]}[word]()


if __name__ == "__main__":
    unittest.main()
