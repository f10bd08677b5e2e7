"""Executions without a plan."""

import unittest

from firstwake.plain import full_run, run
from tests.samples import FIRST, one_function, records

NOTHING = ([], [], [])


class Wakings(unittest.TestCase):
    def test_fields_are_0_at_first(self):
        program = one_function([FIRST, (None, 1, ())], ("number", 0, 9), ("read", 0, 1, 0), ("show", 0))
        self.assertEqual(run(program, []), ("done", [0]))
        self.assertEqual(records(program)["seen"], [None])

    def test_slots_are_0_in_each_frame(self):
        code = (("show", 0), ("show", 1), ("show", 2), ("number", 0, 1), ("number", 1, 2), ("number", 2, 3))
        program = ((FIRST,), ((0, (("number", 1, 8), ("call", 1), ("call", 1), ("show", 1))), (0, code)))
        self.assertEqual(run(program, []), ("done", [0] * 6 + [8]))
        for slot in range(3):
            units = [FIRST, (None, 1, (("write", 1, 0, slot), ("number", slot, 5)))]
            woken = one_function(units, ("number", slot, 8), ("read", 0, 1, 0), ("show", 0), ("show", slot))
            self.assertEqual(run(woken, []), ("done", [0, 8 if slot else 0]))

    def test_function_0_is_called_and_wakes_its_unit(self):
        program = ((FIRST, (None, 0, ())), ((1, (("show", 0),)), (0, (("fail",),))))
        self.assertEqual(full_run(program, [], NOTHING), ("done", [0], [(0, 0)], [], {}, [(1, 0)], []))

    def test_an_access_wakes_a_unit_once(self):
        program = one_function([FIRST, (None, 1, (("number", 0, 7), ("write", 1, 0, 0)))],
                               ("read", 1, 1, 0), ("write", 1, 0, 0), ("read", 2, 1, 0), ("show", 1), ("show", 2))
        found = records(program)
        self.assertEqual(found["output"], [7, 0])
        self.assertEqual(found["order"], [(0, 0), (1, 0)])
        self.assertEqual(found["finds"], [
            (("function", 0), 0, "asleep"), (("unit", 1), 1, "waking"), (("function", 0), 1, "awake"),
            (("function", 0), 2, "awake"),
        ])

    def test_each_kind_of_access_wakes(self):
        for instruction in [("read", 0, 1, 0), ("write", 1, 0, 0), ("call", 1), ("wake", 1, 1)]:
            program = ((FIRST, (None, 1, ())), ((0, (instruction,)), (1, (("show", 0),))))
            with self.subTest(instruction=instruction):
                self.assertEqual(records(program)["order"], [(0, 0), (1, 0)])
                self.assertEqual(records(program)["finds"], [(("function", 0), 0, "asleep")])

    def test_other_instructions_wake_nothing(self):
        code = (("number", 1, 1), ("copy", 1, 1), ("add", 1, 1), ("input", 1), ("show", 1), ("branch", 6))
        program = ((FIRST, (None, 1, ()), (None, 1, ())), ((0, code), (1, (("show", 0),))))
        self.assertEqual(full_run(program, [1, 1], NOTHING),
                         ("done", [1], [(0, place) for place in range(6)], [], {}, [(0, 0)], []))

    def test_the_waking_comes_before_the_access(self):
        program = one_function([FIRST, (None, 1, (("number", 0, 7), ("write", 1, 0, 0)))],
                               ("number", 0, 3), ("write", 1, 0, 0), ("read", 1, 1, 0), ("show", 1))
        self.assertEqual(run(program, []), ("done", [3]))

    def test_a_function_that_is_called_belongs_to_a_unit(self):
        program = ((FIRST, (None, 1, (("number", 0, 5), ("write", 1, 0, 0)))),
                   ((0, (("call", 1), ("show", 0))), (1, (("read", 0, 1, 0), ("show", 0)))))
        self.assertEqual(full_run(program, [], NOTHING), (
            "done", [5, 0], [(0, 0), (1, 0), (1, 1), (0, 1)], [(("unit", 1), 1, 0)], {}, [(0, 0), (1, 0)],
            [(("function", 0), 0, "asleep"), (("unit", 1), 1, "waking"), (("function", 1), 0, "awake")],
        ))


class Parents(unittest.TestCase):
    def program(self, code, first_code=(), parent_code=(("number", 0, 4), ("write", 1, 0, 0))):
        child = (1, 1, (("read", 0, 1, 0), ("add", 0, 1), ("write", 2, 0, 0)))
        return (((None, 0, first_code), (None, 1, parent_code), child), ((0, code),))

    def test_asleep(self):
        found = records(self.program((("read", 0, 2, 0), ("show", 0))))
        self.assertEqual((found["output"], found["order"]), ([5], [(0, 0), (2, 0), (1, 0)]))
        self.assertEqual(found["own"], {(2, 0): (("unit", 1), 1, 0)})
        self.assertEqual(found["finds"][1:3], [(("unit", 1), 1, "waking"), (("unit", 2), 0, "awake")])

    def test_awake(self):
        found = records(self.program((("write", 1, 0, 0), ("read", 0, 2, 0), ("show", 0))))
        self.assertEqual((found["output"], found["order"]), ([1], [(0, 0), (1, 0), (2, 1)]))

    def test_waking(self):
        # The parent's initializer wakes the child, which uses its parent and goes on before it.
        code = (("number", 0, 4), ("read", 1, 2, 0), ("write", 1, 0, 0))
        found = records(self.program((("read", 0, 1, 0), ("read", 1, 2, 0), ("show", 0), ("show", 1)), (), code))
        self.assertEqual((found["end"], found["output"], found["order"]), ("done", [4, 1], [(0, 0), (1, 0), (2, 0)]))
        self.assertEqual(found["own"], {(2, 0): None, (1, 1): (("unit", 2), 2, 0)})
        self.assertEqual(found["finds"], [
            (("function", 0), 0, "asleep"), (("unit", 1), 1, "asleep"), (("unit", 2), 0, "waking"),
            (("unit", 2), 2, "waking"), (("unit", 1), 2, "waking"), (("function", 0), 1, "awake"),
        ])

    def test_broken(self):
        code = (("wake", 1, 1), ("wake", 2, 3), ("show", 0), ("wake", 2, 4))
        found = records(self.program(code, (), (("fail",),)))
        self.assertEqual((found["end"], found["output"], found["path"]), ("done", [], [(0, 0), (0, 1), (0, 3)]))
        self.assertEqual(found["order"], [(0, 0), (1, 0), (2, 1)])
        self.assertEqual(found["own"], {})
        self.assertEqual([status for _, _, status in found["finds"]], ["asleep", "asleep", "broken"])

    def test_a_parent_that_breaks_breaks_its_child(self):
        found = records(self.program((("wake", 2, 1), ("wake", 1, 2), ("wake", 2, 3)), (), (("fail",),)))
        self.assertEqual((found["end"], found["path"]), ("done", [(0, 0), (0, 1), (0, 2)]))
        self.assertEqual([status for _, _, status in found["finds"]], ["asleep", "broken", "broken"])
        self.assertEqual(found["order"], [(0, 0), (2, 0), (1, 0)])

    def test_parents_of_parents(self):
        chain = [(None, 0, ())] + [(unit, 0, ()) for unit in range(5)]
        self.assertEqual(records(((*chain,), ((5, (("show", 0),)),)))["order"], [(unit, 0) for unit in range(5, -1, -1)])


class Initializers(unittest.TestCase):
    def test_they_use_their_own_units(self):
        code = (("read", 0, 0, 0), ("add", 0, 2), ("write", 0, 0, 0), ("read", 1, 0, 0), ("write", 0, 1, 1))
        program = (((None, 2, code),), ((0, (("read", 2, 0, 1), ("show", 2))),))
        found = records(program)
        self.assertEqual(found["output"], [2])
        self.assertEqual(found["own"], {(0, 0): None, (0, 3): (("unit", 0), 2, 0)})
        self.assertEqual(found["finds"], [(("unit", 0), place, "waking") for place in [0, 2, 3, 4]]
                         + [(("function", 0), 0, "awake")])

    def test_they_use_one_another(self):
        one = (None, 1, (("number", 0, 3), ("write", 1, 0, 0), ("read", 1, 2, 0), ("write", 1, 0, 1)))
        two = (None, 1, (("read", 0, 1, 0), ("add", 0, 10), ("write", 2, 0, 0)))
        code = (("read", 0, 1, 0), ("read", 1, 2, 0), ("show", 0), ("show", 1))
        found = records(one_function([FIRST, one, two], *code))
        self.assertEqual((found["output"], found["order"]), ([13, 13], [(0, 0), (1, 0), (2, 0)]))
        self.assertEqual(found["own"], {(1, 2): (("unit", 2), 2, 0), (2, 0): (("unit", 1), 1, 0)})
        found = records(one_function([FIRST, one, two], code[1], code[0], *code[2:]))
        self.assertEqual((found["output"], found["order"]), ([0, 10], [(0, 0), (2, 0), (1, 0)]))
        self.assertEqual(found["own"], {(1, 2): None, (2, 0): (("unit", 1), 3, 0)})

    def test_numbers_are_taken_modulo_65536(self):
        program = one_function([FIRST, (None, 1, (("add", 0, 65535), ("add", 0, 65535), ("write", 1, 0, 0)))],
                               ("read", 0, 1, 0), ("show", 0), ("add", 0, 2), ("show", 0), ("input", 1),
                               ("add", 1, 1), ("show", 1), ("show", 0))
        self.assertEqual(run(program, [65535]), ("done", [65534, 0, 0, 0]))
        self.assertEqual(run(program, [65534]), ("done", [65534, 0, 65535, 0]))

    def test_copies(self):
        code = (("input", 1), ("copy", 2, 1), ("number", 1, 5), ("copy", 2, 2), ("show", 2), ("copy", 0, 1), ("show", 0))
        self.assertEqual(run(one_function([FIRST], *code), [77]), ("done", [77, 5]))


class Failures(unittest.TestCase):
    FAILS = (None, 1, (("number", 0, 6), ("write", 1, 0, 0), ("read", 1, 1, 0), ("fail",), ("write", 1, 0, 1)))

    def test_in_function_0(self):
        found = records(one_function([FIRST], ("show", 0), ("fail",), ("show", 0)))
        self.assertEqual((found["end"], found["output"], found["path"]), ("failed", [0], [(0, 0)]))

    def test_in_a_function_that_is_called(self):
        functions = ((0, (("show", 0), ("call", 1), ("show", 0))), (0, (("show", 0), ("fail",))))
        found = records(((FIRST,), functions))
        self.assertEqual((found["end"], found["path"]), ("failed", [(0, 0), (0, 1), (1, 0)]))

    def test_a_wake_before_or_behind_does_not_catch(self):
        functions = ((0, (("wake", 0, 1), ("call", 1), ("wake", 0, 3))), (0, (("wake", 0, 2), ("fail",))))
        found = records(((FIRST,), functions))
        self.assertEqual((found["end"], found["path"]), ("failed", [(0, 0), (0, 1), (1, 0)]))

    def test_an_access_that_fails(self):
        for instruction in [("read", 0, 1, 0), ("write", 1, 0, 0), ("call", 1)]:
            program = ((FIRST, self.FAILS), ((0, (("show", 0), instruction, ("show", 0))), (1, (("show", 1),))))
            found = records(program)
            with self.subTest(instruction=instruction):
                self.assertEqual((found["end"], found["output"], found["path"]), ("failed", [0], [(0, 0)]))
                self.assertEqual((found["order"], found["seen"]), ([(0, 0), (1, 1)], []))
                self.assertEqual(found["own"], {(1, 2): (("unit", 1), 1, 0)})
                self.assertEqual(found["finds"], [(("function", 0), 1, "asleep"), (("unit", 1), 1, "waking"),
                                                  (("unit", 1), 2, "waking")])

    def test_the_first_access_fails(self):
        found = full_run((((None, 0, (("fail",),)),), ((0, (("show", 0),)),)), [], NOTHING)
        self.assertEqual(found, ("failed", [], [], [], {}, [(0, 0)], []))

    def test_a_wake_goes_on_at_its_k(self):
        found = records(one_function([FIRST, self.FAILS], ("wake", 1, 2), ("show", 0), ("input", 1), ("show", 1)), [3])
        self.assertEqual((found["end"], found["output"], found["path"]), ("done", [3], [(0, 0), (0, 2), (0, 3)]))
        self.assertEqual(found["own"], {(1, 2): (("unit", 1), 1, 0)})

    def test_a_wake_that_does_not_fail_does_nothing_more(self):
        found = records(one_function([FIRST, (None, 0, ())], ("wake", 1, 2), ("show", 0), ("wake", 1, 4), ("show", 1)))
        self.assertEqual((found["end"], found["path"]), ("done", [(0, place) for place in range(4)]))
        self.assertEqual(found["finds"], [(("function", 0), 0, "asleep"), (("function", 0), 2, "awake")])

    def test_a_wake_goes_on_at_the_end(self):
        functions = ((0, (("call", 1), ("show", 0))), (0, (("wake", 1, 2), ("fail",))))
        found = records(((FIRST, self.FAILS), functions))
        self.assertEqual((found["end"], found["path"]), ("done", [(0, 0), (1, 0), (0, 1)]))
        found = records(one_function([FIRST, self.FAILS], ("wake", 1, 1)))
        self.assertEqual((found["end"], found["path"]), ("done", [(0, 0)]))

    def test_a_wake_of_a_broken_unit(self):
        code = (("wake", 1, 1), ("wake", 1, 3), ("fail",), ("show", 0))
        found = records(one_function([FIRST, self.FAILS], *code))
        self.assertEqual((found["end"], found["path"]), ("done", [(0, 0), (0, 1), (0, 3)]))
        self.assertEqual([find[2] for find in found["finds"] if find[0] == ("function", 0)], ["asleep", "broken"])
        self.assertEqual(found["order"], [(0, 0), (1, 0)])

    def test_another_access_of_a_broken_unit(self):
        for instruction in [("read", 0, 1, 0), ("write", 1, 0, 0), ("call", 1)]:
            program = ((FIRST, self.FAILS), ((0, (("wake", 1, 1), instruction)), (1, (("show", 1),))))
            with self.subTest(instruction=instruction):
                self.assertEqual((records(program)["end"], records(program)["path"]), ("failed", [(0, 0)]))
                self.assertEqual(records(program)["finds"][-1], (("function", 0), 1, "broken"))

    def test_the_wake_that_catches_is_that_of_the_last_frame_alone(self):
        functions = ((0, (("call", 1), ("show", 0))), (0, (("wake", 1, 2), ("show", 0), ("read", 0, 1, 0))))
        found = records(((FIRST, self.FAILS), functions))
        self.assertEqual((found["end"], found["path"]), ("failed", [(0, 0), (1, 0)]))

    def test_all_units_that_are_waking_break(self):
        # Unit 1 uses unit 3, whose parent is unit 2; that one uses unit 4, which fails. Unit 5 has ended before.
        units = [
            FIRST, (None, 1, (("write", 5, 0, 0), ("write", 3, 0, 0), ("write", 1, 0, 0))),
            (None, 1, (("read", 0, 4, 0),)), (2, 1, (("read", 0, 0, 0),)), self.FAILS[:2] + ((("fail",),),),
            (None, 1, ()),
        ]
        units[0] = (None, 1, ())
        wakes = [("wake", unit, place + 1) for place, unit in enumerate([1, 2, 3, 4, 5, 0])]
        found = records(one_function(units, *wakes))
        self.assertEqual((found["end"], len(found["path"])), ("done", 6))
        self.assertEqual(found["order"], [(0, 0), (1, 0), (5, 0), (3, 0), (2, 0), (4, 0)])
        at = {place: status for body, place, status in found["finds"] if body == ("function", 0)}
        self.assertEqual(at, {0: "asleep", 1: "broken", 2: "broken", 3: "broken", 4: "awake", 5: "awake"})
        self.assertEqual(found["own"], {})

    def test_units_in_a_loop_break_together(self):
        units = [FIRST, (None, 1, (("read", 0, 2, 0), ("fail",))), (None, 1, (("read", 0, 1, 0),))]
        found = records(one_function(units, ("wake", 1, 1), ("wake", 1, 2), ("wake", 2, 3)))
        self.assertEqual([find[2] for find in found["finds"] if find[0][0] == "function"], ["asleep", "broken", "awake"])
        found = records(one_function(units, ("wake", 2, 1), ("wake", 1, 2), ("wake", 2, 3)))
        self.assertEqual([find[2] for find in found["finds"] if find[0][0] == "function"], ["asleep", "broken", "broken"])

    def test_fields_keep_what_was_written_before_a_failure(self):
        reader = (None, 1, (("read", 0, 1, 0), ("write", 2, 0, 0)))
        units = [FIRST, self.FAILS, reader]
        plan = ([], [(("unit", 2), 0)], [])
        found = records(one_function(units, ("wake", 1, 1), ("read", 0, 2, 0), ("show", 0)), [], plan)
        self.assertEqual((found["end"], found["output"]), ("done", [6]))
        self.assertEqual(found["own"][(2, 0)], (("unit", 1), 1, 0))
        found = records(one_function(units, ("wake", 1, 1), ("read", 0, 2, 0), ("show", 0)))
        self.assertEqual((found["end"], found["output"], found["path"]), ("failed", [], [(0, 0)]))


class Inputs(unittest.TestCase):
    ECHO = one_function([FIRST], ("input", 0), ("show", 0), ("branch", 0), ("show", 1))

    def test_taken_in_order(self):
        self.assertEqual(run(self.ECHO, [5, 1, 6, 2, 7, 0]), ("done", [5, 6, 7, 0]))
        self.assertEqual(run(self.ECHO, [5, 65535, 6]), ("waits", [5, 6]))
        self.assertEqual(run(self.ECHO, []), ("waits", []))

    def test_those_left_over_mean_nothing(self):
        self.assertEqual(full_run(self.ECHO, [5, 0, 9, 9], NOTHING), full_run(self.ECHO, [5, 0], NOTHING))

    def test_an_instruction_that_waits_does_not_take_place(self):
        found = records(self.ECHO, [5, 1])
        self.assertEqual((found["end"], found["path"]), ("waits", [(0, 0), (0, 1), (0, 2)]))
        self.assertEqual(records(self.ECHO, [5])["path"], [(0, 0), (0, 1)])

    def test_a_branch_to_any_place(self):
        code = (("branch", 3), ("show", 0), ("branch", 2), ("show", 0), ("branch", 5))
        for inputs, path in [([1, 1], [0, 3, 4]), ([0, 0, 0], [0, 1, 2, 3, 4]), ([0, 1, 1, 0, 2], [0, 1, 2, 2, 2, 3, 4])]:
            found = records(one_function([FIRST], *code), inputs)
            self.assertEqual((found["end"], found["path"]), ("done", [(0, place) for place in path]))

    def test_a_hundred(self):
        self.assertEqual(run(one_function([FIRST], ("branch", 0)), [1] * 100), ("waits", []))
        self.assertEqual(len(records(one_function([FIRST], ("branch", 0)), [1] * 99 + [0])["path"]), 100)

    def test_in_called_functions(self):
        functions = ((0, (("call", 1), ("input", 0), ("call", 1), ("show", 0))), (0, (("input", 0), ("show", 0))))
        self.assertEqual(run(((FIRST,), functions), [1, 2, 3, 4]), ("done", [1, 3, 2]))
        self.assertEqual(records(((FIRST,), functions), [1, 2])["path"], [(0, 0), (1, 0), (1, 1), (0, 1), (0, 2)])


class Records(unittest.TestCase):
    def test_names_count_the_writes_of_an_instruction(self):
        code = (("read", 0, 1, 0), ("write", 1, 0, 1), ("read", 0, 1, 0), ("branch", 0), ("write", 1, 0, 0),
                ("read", 2, 1, 0))
        found = records(one_function([FIRST, (None, 1, (("write", 1, 0, 0),))], *code), [1, 1, 0])
        write = (("function", 0), 1)
        self.assertEqual(found["seen"], [(("unit", 1), 0, 0), (*write, 0), (*write, 0), (*write, 1), (*write, 1),
                                         (*write, 2), (("function", 0), 4, 0)])

    def test_counts_of_different_fields_by_one_instruction_are_one(self):
        functions = ((0, (("call", 1), ("call", 1), ("call", 2), ("read", 0, 0, 0), ("read", 0, 0, 1))),
                     (0, (("write", 0, 0, 0),)), (0, (("write", 0, 1, 0),)))
        found = records((((None, 2, ()),), functions))
        self.assertEqual(found["seen"], [(("function", 1), 0, 1), (("function", 2), 0, 0)])

    def test_fields_are_their_own(self):
        units = [(None, 2, (("write", 0, 1, 0),)), (None, 2, (("write", 1, 0, 0),))]
        code = [("read", 0, unit, field) for unit in (0, 1) for field in (0, 1)]
        self.assertEqual(records(one_function(units, *code))["seen"],
                         [None, (("unit", 0), 0, 0), (("unit", 1), 0, 0), None])

    def test_a_call_stands_before_what_it_calls(self):
        functions = ((0, (("call", 1), ("call", 2))), (0, (("call", 2), ("show", 0))), (0, (("show", 0),)))
        self.assertEqual(records(((FIRST,), functions))["path"],
                         [(0, 0), (1, 0), (2, 0), (1, 1), (0, 1), (2, 0)])

    def test_moments(self):
        units = [FIRST, (None, 1, (("read", 0, 2, 0),)), (None, 1, ()), (None, 0, (("fail",),)), (None, 1, ())]
        functions = ((0, (("show", 0), ("read", 0, 1, 0), ("wake", 3, 3), ("call", 1))), (4, (("show", 0),)))
        self.assertEqual(records((tuple(units), functions))["order"], [(0, 0), (1, 1), (2, 1), (3, 2), (4, 3)])

    def test_finds_of_calls_and_wakes(self):
        functions = ((0, (("wake", 1, 1), ("call", 1), ("call", 1))), (1, (("wake", 0, 1), ("wake", 1, 2))))
        found = records(((FIRST, (None, 1, ())), functions))
        self.assertEqual(found["finds"], [
            (("function", 0), 0, "asleep"), (("function", 0), 1, "awake"), (("function", 1), 0, "awake"),
            (("function", 1), 1, "awake"), (("function", 0), 2, "awake"), (("function", 1), 0, "awake"),
            (("function", 1), 1, "awake"),
        ])

    def test_run_returns_the_first_two(self):
        program = one_function([FIRST], ("input", 0), ("show", 0))
        self.assertEqual([run(program, []), run(program, [4])], [("waits", []), ("done", [4])])
        self.assertIs(type(run(program, [4])), tuple)
        self.assertEqual([type(part) for part in full_run(program, [4], NOTHING)],
                         [str, list, list, list, dict, list, list])


if __name__ == "__main__":
    unittest.main()
