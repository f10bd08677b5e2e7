"""Machines: drawn calls of all methods compared with the oracle's machine, and each method by itself."""

import copy
import inspect
import random
import unittest

from firstwake.errors import NoMove, NoNumber, NoOrder, NoProgram, NoRoom, NoStarts, NoUnit
from firstwake.machines import Machine
from firstwake.plain import run
from firstwake.schedules import deadlock
from firstwake.threads import first_state, state_after
from tests.drawn import drawn_inputs, drawn_locking, drawn_program
from tests.machine_oracle import OracleMachine
from tests.samples import FIRST, LOCKED, NO_PROGRAMS, OTHER_KINDS, one_function

EMPTY = (None, 0, ())
HOLDS_7 = (None, 1, (("number", 0, 7), ("write", 1, 0, 0)))
FAILS = (None, 1, (("fail",),))
NO_INDEXES = [None, True, False, -1, 10 ** 20, -10 ** 20, "", "0", (), (0,), [], [0], {}]


def everything(machine, threads, units):
    return (
        machine.state(), machine.schedule(), [machine.output(thread) for thread in range(threads)],
        [machine.stands(thread) for thread in range(threads)], [machine.why(unit) for unit in range(units)], machine.cycle(),
    )


def stepped(machine, *threads):
    for thread in threads:
        machine.step(thread)
    return machine


class Drawn(unittest.TestCase):
    def try_call(self, machine, oracle, dice, program, starts, told):
        """Make a call that is drawn, in the machine and in the oracle, with the same answer or refusal."""
        thread = dice.randrange(len(starts))
        word = dice.choice(["feed", "step", "step", "step", "step", "step", "mark", "back"])
        told[word] = told.get(word, 0) + 1
        if word == "feed":
            number = dice.choice([0, 0, 1, 5, 65535])
            self.assertIs(oracle.feed(thread, number), True)
            self.assertIsNone(machine.feed(thread, number))
        elif word == "step":
            if oracle.step(thread):
                self.assertIsNone(machine.step(thread))
            else:
                self.assertRaises(NoMove, machine.step, thread)
                told["no move"] = told.get("no move", 0) + 1
        elif word == "mark":
            self.assertEqual(machine.mark(), oracle.mark())
        else:
            number = dice.randrange(len(oracle.copies) + 1)
            if dice.random() < 0.3:
                if oracle.back(number):
                    self.assertIsNone(machine.back(number))
                else:
                    self.assertRaises(NoNumber, machine.back, number)

    def test_all_methods_in_any_order(self):
        told, stands = {}, {}
        for seed in range(130):
            program = drawn_locking("machines", seed) if seed % 3 else drawn_program("machines", seed, most_units=4)
            dice = random.Random(repr(("machines", seed)))
            starts = tuple(dice.randrange(len(program[1])) for _ in range(dice.choice([1, 2, 2, 3])))
            ahead = dice.sample(range(len(program[0])), dice.choice([0, 0, 1]))
            if first_state(program, starts, ahead) == "failed":
                self.assertRaises(NoMove, Machine, program, starts, ahead)
                continue
            machine, oracle = Machine(program, starts, ahead), OracleMachine(program, starts, ahead)
            kept = []
            for _ in range(60):
                self.try_call(machine, oracle, dice, program, starts, told)
                found = everything(machine, len(starts), len(program[0]))
                with self.subTest(program=program, starts=starts, ahead=ahead):
                    self.assertEqual(found, oracle.everything())
                    self.assertEqual(state_after(program, starts, ahead, found[1]), found[0])
                kept.append((found, copy.deepcopy(found)))
                for one in found[3]:
                    one = one if isinstance(one, str) else one[0]
                    stands[one] = stands.get(one, 0) + 1
                stands["cycle"] = stands.get("cycle", 0) + bool(found[5])
            self.assertEqual([one for one, _ in kept], [one for _, one in kept])
        self.assertGreater(min(stands[one] for one in ["moves", "waits", "done", "failed", "blocked", "cycle"]), 30, stands)
        self.assertGreater(told["no move"], 100)

    def test_machines_of_one_program_side_by_side(self):
        for seed in range(25):
            program = drawn_locking("side by side", seed)
            dice = random.Random(repr(("side by side", seed)))
            starts = tuple(dice.randrange(len(program[1])) for _ in range(2))
            machines = [Machine(program, starts, []) for _ in range(2)]
            oracles = [OracleMachine(program, starts, []) for _ in range(2)]
            for _ in range(60):
                at = dice.randrange(2)
                self.try_call(machines[at], oracles[at], dice, program, starts, {})
                for machine, oracle in zip(machines, oracles):
                    self.assertEqual(everything(machine, 2, len(program[0])), oracle.everything())


class Methods(unittest.TestCase):
    def test_they_stand_in_the_class_itself(self):
        for name, parameters in [
            ("__init__", ["program", "starts", "ahead"]), ("feed", ["thread", "number"]), ("step", ["thread"]),
            ("back", ["number"]), ("output", ["thread"]), ("stands", ["thread"]), ("state", []), ("schedule", []),
            ("why", ["unit"]), ("cycle", []), ("mark", []),
        ]:
            self.assertIn(name, vars(Machine))
            self.assertEqual(list(inspect.signature(vars(Machine)[name]).parameters), ["self"] + parameters)
        self.assertEqual(Machine.__module__, "firstwake.machines")

    def test_calls_by_names(self):
        machine = Machine(ahead=[1], starts=(0, 1), program=LOCKED)
        self.assertEqual(machine.state(), first_state(LOCKED, (0, 1), [1]))
        self.assertEqual(machine.state()[0], ("asleep", "awake", "awake"))
        self.assertIsNone(machine.feed(number=5, thread=0))
        self.assertIsNone(machine.step(thread=0))
        self.assertEqual((machine.output(thread=0), machine.stands(thread=1), machine.why(unit=0)),
                         ([], ("blocked", 0), [(("start", 0), 0)]))
        self.assertEqual((machine.mark(), machine.back(number=0)), (0, None))

    def test_stands(self):
        program = ((FIRST, (None, 1, (("number", 0, 1),)), FAILS), ((0, (("read", 0, 1, 0), ("input", 0), ("show", 0))),
                                                                  (0, (("read", 0, 1, 0), ("read", 0, 2, 0)))))
        machine = Machine(program, (0, 1), [0])
        self.assertEqual([machine.stands(0), machine.stands(1)], ["moves", "moves"])
        stepped(machine, 0, 0, 1)
        self.assertEqual([machine.stands(0), machine.stands(1)], ["moves", ("blocked", 1)])
        self.assertRaises(NoMove, machine.step, 1)
        stepped(machine, 0, 0, 1, 0)
        self.assertEqual([machine.stands(0), machine.stands(1)], ["waits", "moves"])
        self.assertRaises(NoMove, machine.step, 0)
        machine.feed(0, 9)
        self.assertEqual(machine.stands(0), "moves")
        stepped(machine, 0, 0, 0, 1, 1)
        self.assertEqual([machine.stands(0), machine.stands(1)], ["done", "failed"])
        self.assertEqual((machine.output(0), machine.output(1)), ([9], []))
        for thread in (0, 1):
            self.assertRaises(NoMove, machine.step, thread)
        self.assertEqual(machine.state(), (("awake", "awake", "broken"), ((), ((("failed", 1), 0),))))
        self.assertEqual(machine.schedule(), [
            (0, 0), (0, 0), (1, 0), (0, 0), (0, 0), (1, 0), (0, 0), (0, 1), (0, 0), (0, 0), (1, 0), (1, 0)])

    def test_bits_of_inputs(self):
        program = one_function([FIRST], ("input", 0), ("branch", 3), ("show", 0), ("show", 0))
        for inputs, bits, shown in [([0, 0], [0, 0], [0, 0]), ([5, 1], [1, 1], [5]), ([65535, 0], [1, 0], [65535] * 2),
                                    ([0, 65535], [0, 1], [0])]:
            machine = Machine(program, (0,), [0])
            for number in inputs:
                machine.feed(0, number)
            while machine.stands(0) == "moves":
                machine.step(0)
            self.assertEqual([bit for _, bit in machine.schedule()][1:3], bits)
            self.assertEqual(machine.output(0), shown)

    def test_a_wake_whose_unit_is_broken_and_a_branch_have_their_own_bits(self):
        program = one_function([FIRST, FAILS], ("wake", 1, 1), ("wake", 1, 2), ("show", 0))
        machine = Machine(program, (0,), [0])
        machine.feed(0, 7)
        while machine.stands(0) == "moves":
            machine.step(0)
        self.assertEqual(set(machine.schedule()), {(0, 0)})
        self.assertEqual((machine.stands(0), machine.output(0)), ("done", [0]))

    def test_numbers_of_units_ahead(self):
        program = one_function([FIRST, HOLDS_7, (None, 1, (("read", 1, 1, 0), ("add", 1, 65535), ("write", 2, 0, 1)))],
                               ("read", 0, 2, 0), ("show", 0), ("add", 0, 1), ("copy", 2, 0), ("show", 2))
        for ahead in [[], [1], [2], [0, 1, 2]]:
            machine = Machine(program, (0, 0), ahead)
            for thread in (0, 1):
                while machine.stands(thread) == "moves":
                    machine.step(thread)
            self.assertEqual([machine.output(0), machine.output(1)], [[6, 7]] * 2)
            self.assertEqual([machine.why(unit) == [] for unit in range(3)], [unit in ahead + [1] * (2 in ahead) for unit in range(3)])

    def test_slots_of_frames(self):
        program = ((FIRST,), ((0, (("number", 0, 5), ("call", 1), ("show", 0), ("call", 1))),
                              (0, (("show", 0), ("number", 0, 9), ("show", 0)))))
        machine = Machine(program, (0,), [])
        while machine.stands(0) == "moves":
            machine.step(0)
        self.assertEqual(machine.output(0), [0, 9, 5, 0, 9])

    def test_a_failure_keeps_the_slots_of_the_function(self):
        program = one_function([FIRST, (None, 1, (("number", 0, 3), ("fail",)))], ("number", 0, 8), ("wake", 1, 2), ("show", 0))
        machine = Machine(program, (0,), [])
        while machine.stands(0) == "moves":
            machine.step(0)
        self.assertEqual(machine.output(0), [8])

    def test_why(self):
        units = [FIRST, (None, 0, ()), (1, 1, ()), (None, 0, (("number", 0, 0), ("read", 0, 2, 0)))]
        program = ((*units, (3, 0, ())), ((0, (("show", 0), ("call", 1))), (4, (("show", 0),))))
        machine = Machine(program, (0,), [])
        self.assertEqual([machine.why(unit) for unit in range(5)], [[]] * 5)
        while machine.stands(0) == "moves":
            machine.step(0)
        call, parent = (("function", 0), 1), (("unit", 4), -1)
        self.assertEqual([machine.why(unit) for unit in range(5)], [
            [(("start", 0), 0)], [call, parent, (("unit", 3), 1), (("unit", 2), -1)], [call, parent, (("unit", 3), 1)],
            [call, parent], [call],
        ])
        machine = Machine(program, (1,), [3])
        while machine.stands(0) == "moves":
            machine.step(0)
        self.assertEqual([machine.why(unit) for unit in range(5)], [[], [], [], [], [(("start", 0), 0)]])

    def test_why_of_a_unit_that_is_held_or_broken(self):
        program = ((FIRST, FAILS, (1, 0, ())), ((0, (("wake", 2, 1), ("show", 0))), (2, (("show", 0),))))
        machine = Machine(program, (0, 1), [0])
        stepped(machine, 1)
        self.assertEqual(machine.why(2), [(("start", 1), 0)])
        stepped(machine, 1)
        self.assertEqual((machine.why(1), machine.why(2)), ([(("start", 1), 0), (("unit", 2), -1)], [(("start", 1), 0)]))
        stepped(machine, 1)
        self.assertEqual(machine.state()[0], ("awake", "broken", "broken"))
        self.assertEqual((machine.why(1), machine.why(2)), ([(("start", 1), 0), (("unit", 2), -1)], [(("start", 1), 0)]))

    def test_cycles(self):
        machine = Machine(LOCKED, (0, 1), [])
        cycles = []
        for thread, _ in deadlock(LOCKED, (0, 1), [])[1]:
            machine.step(thread)
            cycles.append(machine.cycle())
        self.assertEqual(cycles, [[]] * 5 + [[0, 1]])
        ring = (
            (FIRST, (None, 1, (("read", 0, 2, 0),)), (None, 1, (("read", 0, 3, 0),)), (None, 1, (("read", 0, 1, 0),))),
            ((0, (("read", 0, 1, 0),)), (0, (("read", 0, 2, 0),)), (0, (("read", 0, 3, 0),))),
        )
        machine = stepped(Machine(ring, (0, 1, 2), [0]), 0, 1, 2, 0, 1)
        self.assertEqual((machine.cycle(), machine.stands(0), machine.stands(1)), ([], ("blocked", 2), "moves"))
        machine.step(2)
        self.assertEqual(machine.cycle(), [0, 1, 2])
        self.assertEqual([machine.stands(thread) for thread in range(3)], [("blocked", 2), ("blocked", 3), ("blocked", 1)])
        # It is told in ascending order, whoever waits for whom.
        machine = stepped(Machine(ring, (0, 2, 1), [0]), 0, 1, 2, 0, 1, 2)
        self.assertEqual([machine.stands(thread) for thread in range(3)], [("blocked", 2), ("blocked", 1), ("blocked", 3)])
        self.assertEqual(machine.cycle(), [0, 1, 2])
        # A thread that waits for one of a cycle is no part of it.
        program = (LOCKED[0], LOCKED[1] + ((0, (("read", 0, 2, 0),)),))
        machine = stepped(Machine(program, (2, 0, 1), [0]), 0, 1, 2, 1, 2)
        self.assertEqual((machine.cycle(), machine.stands(0)), ([1, 2], ("blocked", 2)))

    def test_a_cycle_never_goes_away(self):
        for seed in range(200):
            program = drawn_locking("cycles", seed)
            dice = random.Random(repr(("cycles", seed)))
            machine = Machine(program, tuple(dice.randrange(len(program[1])) for _ in range(3)), [])
            was = []
            for _ in range(60):
                moving = [thread for thread in range(3) if machine.stands(thread) == "moves"]
                for thread in range(3):
                    if machine.stands(thread) == "waits":
                        machine.feed(thread, dice.choice([0, 1]))
                if moving:
                    machine.step(dice.choice(moving))
                self.assertTrue(machine.cycle() == was or was == [])
                was = machine.cycle()

    def test_room_for_inputs(self):
        program = one_function([FIRST], ("branch", 0))
        machine = Machine(program, (0, 0), [0])
        for at in range(100):
            self.assertIsNone(machine.feed(0, at))
        self.assertRaises(NoRoom, machine.feed, 0, 1)
        self.assertRaises(NoNumber, machine.feed, 0, 65536)
        self.assertRaises(NoNumber, machine.feed, 2, 1)
        self.assertIsNone(machine.feed(1, 1))
        # Inputs that were taken leave no room.
        stepped(machine, 0, 0, 0)
        self.assertEqual(machine.stands(0), "done")
        self.assertRaises(NoRoom, machine.feed, 0, 1)
        stepped(machine, 1, 1)
        for at in range(99):
            self.assertIsNone(machine.feed(1, 0))
        self.assertRaises(NoRoom, machine.feed, 1, 0)

    def test_room_behind_a_way_back(self):
        machine = Machine(one_function([FIRST], ("input", 0)), (0,), [])
        for at in range(99):
            machine.feed(0, at)
        machine.mark()
        for _ in range(3):
            machine.feed(0, 1)
            self.assertRaises(NoRoom, machine.feed, 0, 1)
            machine.back(0)

    def test_threads_that_are_at_their_end_are_fed(self):
        machine = Machine(one_function([FIRST], ("show", 0)), (0,), [0])
        stepped(machine, 0, 0, 0)
        self.assertEqual(machine.stands(0), "done")
        for at in range(100):
            self.assertIsNone(machine.feed(0, at))
        self.assertRaises(NoRoom, machine.feed, 0, 0)

    def test_marks_and_ways_back(self):
        program = one_function([FIRST, HOLDS_7], ("input", 0), ("show", 0), ("read", 1, 1, 0), ("branch", 0))
        machine = Machine(program, (0,), [])
        found = [everything(machine, 1, 2)]
        self.assertEqual(machine.mark(), 0)
        machine.feed(0, 3)
        stepped(machine, 0, 0, 0)
        found.append(everything(machine, 1, 2))
        self.assertEqual((machine.mark(), machine.mark()), (1, 2))
        stepped(machine, 0, 0, 0, 0, 0, 0, 0)
        self.assertEqual((machine.output(0), machine.stands(0)), ([3], "waits"))
        self.assertNotEqual(machine.why(1), [])
        self.assertIsNone(machine.back(2))
        self.assertEqual(everything(machine, 1, 2), found[1])
        stepped(machine, 0, 0)
        self.assertEqual(machine.output(0), [3])
        self.assertIsNone(machine.back(1))
        self.assertRaises(NoNumber, machine.back, 2)
        self.assertEqual(everything(machine, 1, 2), found[1])
        self.assertEqual(machine.mark(), 2)
        for _ in range(2):
            self.assertIsNone(machine.back(0))
            self.assertEqual(everything(machine, 1, 2), found[0])
            self.assertRaises(NoNumber, machine.back, 1)
            stepped(machine, 0, 0, 0)
            # The input that was fed behind the mark is gone.
            self.assertEqual(machine.stands(0), "waits")
        self.assertEqual(machine.mark(), 1)

    def test_inputs_that_were_not_taken_come_back(self):
        machine = Machine(one_function([FIRST], ("input", 0), ("input", 1), ("show", 0), ("show", 1)), (0,), [0])
        machine.feed(0, 4)
        machine.feed(0, 5)
        machine.mark()
        for _ in range(2):
            while machine.stands(0) == "moves":
                machine.step(0)
            self.assertEqual((machine.output(0), machine.stands(0)), ([4, 5], "done"))
            machine.back(0)
            self.assertEqual(machine.output(0), [])

    def test_slots_and_fields_come_back(self):
        code = [("number", 0, 5), ("read", 1, 1, 0), ("add", 0, 1), ("add", 1, 1), ("write", 1, 0, 1), ("show", 0), ("show", 1)]
        machine = stepped(Machine(one_function([FIRST, (None, 1, ())], *code), (0,), [0, 1]), 0, 0, 0)
        machine.mark()
        for _ in range(3):
            while machine.stands(0) == "moves":
                machine.step(0)
            self.assertEqual(machine.output(0), [6, 1])
            machine.back(0)

    def test_no_marks(self):
        machine = Machine(LOCKED, (0, 1), [])
        self.assertRaises(NoNumber, machine.back, 0)
        machine.mark()
        for number in NO_INDEXES + [1]:
            self.assertRaises(NoNumber, machine.back, number)
        self.assertEqual(machine.mark(), 1)

    def test_what_was_told_stays_and_may_be_changed(self):
        machine = stepped(Machine(LOCKED, (0, 1), []), 0, 0, 0, 0, 1, 1)
        found = everything(machine, 2, 3)
        kept = copy.deepcopy(found)
        for told in [machine.schedule(), machine.output(0), machine.why(1), machine.cycle()]:
            told.append((9, 9))
            told.clear()
        self.assertEqual((everything(machine, 2, 3), found), (kept, kept))
        machine.mark()
        machine.schedule().clear()
        machine.why(1).clear()
        machine.back(0)
        self.assertEqual(everything(machine, 2, 3), kept)
        first, second = machine.why(1), machine.why(1)
        self.assertIsNot(first, second)
        self.assertIsNot(machine.cycle(), machine.cycle())

    def test_a_list_handed_in_stays_and_may_be_changed(self):
        ahead = [1]
        machine = Machine(LOCKED, (0, 1), ahead)
        self.assertEqual(ahead, [1])
        ahead.append(5)
        ahead[0] = None
        self.assertEqual(machine.state(), first_state(LOCKED, (0, 1), [1]))
        stepped(machine, 0, 0, 1)
        self.assertEqual(machine.state(), state_after(LOCKED, (0, 1), [1], [(0, 0), (0, 0), (1, 0)]))
        self.assertEqual(ahead, [None, 5])

    def test_one_thread_outputs_what_a_run_does(self):
        ends = {}
        for seed in range(400):
            program, inputs = drawn_program("as a run", seed), drawn_inputs("as a run", seed)
            machine = Machine(program, (0,), [])
            for number in inputs:
                machine.feed(0, number)
            while machine.stands(0) == "moves":
                machine.step(0)
            self.assertEqual((machine.stands(0), machine.output(0)), run(program, inputs))
            ends[machine.stands(0)] = ends.get(machine.stands(0), 0) + 1
        self.assertGreater(min(ends[end] for end in ["done", "failed", "waits"]), 20)


class Errors(unittest.TestCase):
    def test_of_the_constructor(self):
        for program in NO_PROGRAMS:
            self.assertRaises(NoProgram, Machine, program, None, None)
        for starts in [*OTHER_KINDS, (0, 0, 0, 0), (2,), (0, 2), (0, -1), (True,), (0, False), ("open",), [0, 1], (None,)]:
            if starts != (0,):
                with self.subTest(starts=starts):
                    self.assertRaises(NoStarts, Machine, LOCKED, starts, None)
        for ahead in [*OTHER_KINDS, [0, 0], [3], [True], (0,), [0, 1, 2, 2], [-1]]:
            if ahead not in ([], [0]):
                with self.subTest(ahead=ahead):
                    self.assertRaises(NoOrder, Machine, LOCKED, (0,), ahead)
        program = one_function([FIRST, FAILS], ("show", 0))
        self.assertRaises(NoMove, Machine, program, (0,), [1])
        self.assertRaises(NoMove, Machine, program, (0,), [0, 1])
        self.assertRaises(NoOrder, Machine, program, (0,), [1, 1])

    def test_of_the_methods(self):
        machine = Machine(LOCKED, (0, 1), [])
        before = everything(machine, 2, 3)
        for thread in NO_INDEXES + [2]:
            with self.subTest(thread=thread):
                for number in [0, None, 65536]:
                    self.assertRaises(NoNumber, machine.feed, thread, number)
                for method in [machine.step, machine.output, machine.stands]:
                    self.assertRaises(NoNumber, method, thread)
        for number in [None, True, False, -1, 65536, 10 ** 20, "0", (), [], [0], {}]:
            self.assertRaises(NoNumber, machine.feed, 0, number)
        for unit in NO_INDEXES + [3]:
            self.assertRaises(NoUnit, machine.why, unit)
        self.assertEqual(everything(machine, 2, 3), before)

    def test_a_refused_call_changes_nothing(self):
        machine = Machine(one_function([FIRST], ("input", 0)), (0,), [0])
        stepped(machine, 0)
        before = everything(machine, 1, 1)
        for call in [lambda: machine.step(0), lambda: machine.step(1), lambda: machine.feed(0, -1), lambda: machine.back(0)]:
            self.assertRaises((NoMove, NoNumber), call)
        self.assertEqual(everything(machine, 1, 1), before)
        self.assertEqual(machine.mark(), 0)


if __name__ == "__main__":
    unittest.main()
