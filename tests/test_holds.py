"""What the document says of pairs, deadlocks and machines together, tried on many drawn programs."""

import itertools
import random
import unittest

from firstwake.checks import needless
from firstwake.errors import TooMany
from firstwake.machines import Machine
from firstwake.pairs import judge, longest, quiet
from firstwake.placements import is_placement, placed, placement
from firstwake.plain import full_run, woken_run
from firstwake.reaches import loops
from firstwake.schedules import cheapest, deadlock
from firstwake.threads import first_state, state_after, steps
from tests.drawn import drawn_inputs, drawn_locking, drawn_plan, drawn_program
from tests.samples import FIRST, RUN, WOKEN, one_function

NOTHING = ([], [], [])


def are_alike(one, other):
    """Tell whether two results of full_run are of alike executions."""
    same = (one[0], one[2], one[3]) == (other[0], other[2], other[3])
    return same and all(other[4][spot] == name for spot, name in one[4].items() if spot in other[4])


class Checks(unittest.TestCase):
    def test_a_quiet_unit_may_be_checked_at_any_placement(self):
        tried = 0
        for seed in range(500):
            program = drawn_program("placed", seed)
            dice = random.Random(repr(("placed", seed)))
            for unit in range(len(program[0])):
                if quiet(program, unit) is None:
                    for function, (_, code) in enumerate(program[1]):
                        everywhere = range(len(code))
                        several = [dice.sample(everywhere, dice.randint(0, len(code))) for _ in range(4)]
                        for places in [*map(sorted, several), list(everywhere), placement(program, function, unit, [1] * len(code))[1]]:
                            if is_placement(program, function, unit, places):
                                plan = placed(program, function, unit, places)
                                self.assertEqual(judge(program, plan)[0], "unnoticed", (program, plan))
                                tried += plan[1] != []
        self.assertGreater(tried, 300)

    def test_a_placement_of_a_unit_that_is_not_quiet_may_be_noticed(self):
        told = set()
        for seed in range(300):
            program = drawn_program("unquiet", seed)
            for unit in range(len(program[0])):
                if quiet(program, unit) is not None:
                    plan = placed(program, 0, unit, [0])
                    told.add(judge(program, plan)[0])
        self.assertEqual(told, {"noticed", "unnoticed"})

    def test_what_judge_says_some_execution_does(self):
        told = {"noticed": 0, "unnoticed": 0}
        for seed in range(600):
            program, plan = drawn_program("judged", seed), drawn_plan(drawn_program("judged", seed), "judged", seed)
            answer, found = judge(program, plan)
            told[answer] += 1
            if answer == "noticed":
                self.assertFalse(are_alike(full_run(program, found, plan), full_run(program, found, NOTHING)))
                found = found[:-1]
            else:
                found = drawn_inputs("judged", seed)
            for many in range(len(found) + 1):
                if answer == "unnoticed" or many < len(found):
                    self.assertTrue(are_alike(full_run(program, found[:many], plan), full_run(program, found[:many], NOTHING)))
            for at in range(3):
                inputs = drawn_inputs("judged", seed, at)
                one, other = full_run(program, inputs, plan), full_run(program, inputs, NOTHING)
                if answer == "unnoticed":
                    self.assertTrue(are_alike(one, other))
                if are_alike(one, other):
                    self.assertEqual(one[1], other[1])
        self.assertGreater(min(told.values()), 50)

    def test_what_quiet_says_some_run_does(self):
        for seed in range(200):
            program = drawn_program("quiet runs", seed)
            for unit in range(len(program[0])):
                found = quiet(program, unit)
                if found is None:
                    inputs = drawn_inputs("quiet runs", seed, unit)
                    plain = full_run(program, inputs, NOTHING)
                    for moment in range(len(plain[2]) + 2):
                        woken = woken_run(program, inputs, unit, moment)
                        self.assertTrue(are_alike(woken, plain))
                        self.assertEqual(woken[1], plain[1])
                else:
                    self.assertFalse(are_alike(woken_run(program, found[0], unit, found[1]), full_run(program, found[0], NOTHING)))

    def test_two_plans_together_and_a_part_of_an_order(self):
        one, other, both = ([2], [], []), ([], [(("unit", 2), 0)], []), ([2], [(("unit", 2), 0)], [])
        self.assertEqual([judge(RUN, plan)[0] for plan in (one, other, both)], ["unnoticed", "unnoticed", "noticed"])
        self.assertEqual([judge(WOKEN, (part, [], []))[0] for part in ([2, 3], [2])], ["unnoticed", "noticed"])
        self.assertEqual(len(longest(WOKEN)), 4)

    def test_needless_plans_are_unnoticed(self):
        for seed in range(200):
            program = drawn_program("needless plans", seed)
            answer, pairs = judge(program, ([], needless(program), []))
            self.assertEqual((answer, [pair for pair in pairs if pair[1] != pair[2]]), ("unnoticed", []))


def drawn_case(name, seed):
    program = drawn_locking(name, seed)
    dice = random.Random(repr((name, seed)))
    return program, tuple(dice.randrange(len(program[1])) for _ in range(dice.choice([2, 2, 3]))), dice


class Threads(unittest.TestCase):
    def test_each_unit_is_woken_at_most_once(self):
        for seed in range(300):
            program, starts, dice = drawn_case("once", seed)
            state = first_state(program, starts, [])
            woken = []
            for _ in range(60):
                found = steps(program, starts, state)
                if not found:
                    break
                _, following = dice.choice(found)
                for unit, status in enumerate(following[0]):
                    if status.startswith("held") and state[0][unit] == "asleep":
                        woken.append(unit)
                    # What has been woken stays held by its thread, or is awake or broken from then on.
                    if state[0][unit] in ("awake", "broken"):
                        self.assertEqual(status, state[0][unit])
                    elif state[0][unit] != "asleep":
                        self.assertIn(status, [state[0][unit], "awake", "broken"])
                state = following
            self.assertEqual(len(set(woken)), len(woken))

    def test_without_loops_there_is_no_deadlock(self):
        told = set()
        for seed in range(500):
            program, starts, _ = drawn_case("loops", seed)
            found = deadlock(program, starts, [])
            told.add((loops(program) == (), found[0]))
            if loops(program) == ():
                self.assertEqual(found[0], "never")
        self.assertEqual(told, {(True, "never"), (False, "never"), (False, "deadlock")})

    def test_in_a_deadlock_there_is_a_cycle(self):
        many = 0
        for seed in range(800):
            program, starts, _ = drawn_case("cycle", seed)
            try:
                answer, schedule = deadlock(program, starts, [])
            except TooMany:
                continue
            if answer == "deadlock":
                machine = Machine(program, starts, [])
                for thread, bit in schedule:
                    if machine.stands(thread) == "waits":
                        machine.feed(thread, bit)
                    machine.step(thread)
                self.assertEqual((machine.schedule(), machine.state()), (schedule, state_after(program, starts, [], schedule)))
                cycle = machine.cycle()
                self.assertGreater(len(cycle), 1)
                self.assertEqual(cycle, sorted(cycle))
                for thread in cycle:
                    word, unit = machine.stands(thread)
                    self.assertEqual(word, "blocked")
                    self.assertIn(machine.state()[0][unit], [f"held {other}" for other in cycle if other != thread])
                many += 1
        self.assertGreater(many, 10)

    def test_units_that_serve_leave_no_deadlock(self):
        for seed in range(150):
            program, starts, dice = drawn_case("served", seed)
            prices = tuple(dice.randrange(5) for _ in program[0])
            price, units, bars = cheapest(program, starts, prices)
            if units is not None:
                self.assertEqual(deadlock(program, starts, list(units))[0], "never")
                self.assertEqual(price, sum(prices[unit] for unit in units))
            for bar, schedule in bars.items():
                if schedule is None:
                    self.assertEqual(first_state(program, starts, list(bar)), "failed")
                else:
                    self.assertEqual(steps(program, starts, state_after(program, starts, list(bar), schedule)), [])

    def test_an_access_by_another_thread_waits_for_the_initializer(self):
        program = one_function([FIRST, (None, 1, (("number", 0, 7), ("write", 1, 0, 0)))], ("read", 0, 1, 0), ("show", 0))
        for order in itertools.product([0, 1], repeat=9):
            machine = Machine(program, (0, 0), [])
            for thread in order:
                if machine.stands(thread) == "moves":
                    machine.step(thread)
            for thread in (0, 1, 0):
                while machine.stands(thread) == "moves":
                    machine.step(thread)
            self.assertEqual([machine.output(0), machine.output(1)], [[7], [7]])


if __name__ == "__main__":
    unittest.main()
