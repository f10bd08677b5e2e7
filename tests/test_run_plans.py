"""Executions with a plan: units ahead, unchecked accesses, extra accesses, and several of these together."""

import unittest

from firstwake.plain import full_run
from tests.samples import FIRST, one_function, records

EMPTY = (None, 0, ())
# For unit 1 alone: it writes its own field.
HOLDS_7 = (None, 1, (("number", 0, 7), ("write", 1, 0, 0)))
FAILS = (None, 1, (("fail",),))


class Ahead(unittest.TestCase):
    def test_they_are_accessed_in_their_order(self):
        program = one_function([FIRST, (0, 0, ()), (None, 0, ()), (2, 0, ())], ("show", 0))
        for ahead, order in [
            ([3, 1], [(3, -1), (2, -1), (1, -1), (0, -1)]),
            ([1, 3], [(1, -1), (0, -1), (3, -1), (2, -1)]),
            ([2, 3], [(2, -1), (3, -1), (0, 0)]),
            ([], [(0, 0)]),
        ]:
            self.assertEqual(records(program, [], (ahead, [], []))["order"], order)

    def test_they_are_awake_at_the_call_of_function_0(self):
        program = one_function([FIRST, HOLDS_7], ("read", 0, 1, 0), ("show", 0))
        self.assertEqual(full_run(program, [], ([1], [], [])), (
            "done", [7], [(0, 0), (0, 1)], [(("unit", 1), 1, 0)], {}, [(1, -1), (0, 0)],
            [(("unit", 1), 1, "waking"), (("function", 0), 0, "awake")],
        ))

    def test_what_their_initializers_read(self):
        program = one_function([FIRST, HOLDS_7, (None, 1, (("read", 0, 1, 0), ("write", 2, 0, 0)))], ("read", 0, 2, 0))
        self.assertEqual(records(program, [], ([2, 1], [], []))["own"], {(2, 0): (("unit", 1), 1, 0)})
        self.assertEqual(records(program, [], ([2, 1], [], []))["order"], [(2, -1), (1, -1), (0, 0)])

    def test_a_failure_ends_the_execution(self):
        units = [FIRST, FAILS, (None, 0, (("write", 1, 0, 0),)), EMPTY, (None, 1, (("read", 0, 4, 0), ("fail",)))]
        program = one_function(units, ("wake", 1, 1))
        self.assertEqual(full_run(program, [1], ([2], [], [])), (
            "failed", [], [], [], {}, [(2, -1), (1, -1)], [(("unit", 2), 0, "asleep")]))
        self.assertEqual(full_run(program, [1], ([0, 4, 1], [], [(0, 0, 3)])), (
            "failed", [], [], [], {(4, 0): None}, [(0, -1), (4, -1)], [(("unit", 4), 0, "waking")]))
        self.assertEqual(records(program, [], ([0, 1], [], []))["end"], "failed")

    def test_one_that_another_one_woke_is_accessed_once_more(self):
        program = one_function([FIRST, (0, 0, ())], ("show", 0))
        self.assertEqual(records(program, [], ([1, 0], [], []))["order"], [(1, -1), (0, -1)])


class Unchecked(unittest.TestCase):
    def test_of_a_unit_that_is_asleep(self):
        program = one_function([FIRST, HOLDS_7], ("read", 0, 1, 0), ("show", 0), ("read", 0, 1, 0), ("show", 0))
        self.assertEqual(full_run(program, [], ([], [(("function", 0), 0)], [])), (
            "done", [0, 7], [(0, place) for place in range(4)], [None, (("unit", 1), 1, 0)], {}, [(0, 0), (1, 2)],
            [(("function", 0), 0, "asleep"), (("function", 0), 2, "asleep"), (("unit", 1), 1, "waking")],
        ))

    def test_a_write_of_a_unit_that_is_asleep(self):
        code = [("number", 1, 3), ("write", 1, 0, 1), ("wake", 1, 3), ("read", 0, 1, 0), ("show", 0)]
        found = records(one_function([FIRST, HOLDS_7], *code), [], ([], [(("function", 0), 1)], []))
        self.assertEqual((found["output"], found["order"]), ([7], [(0, 0), (1, 2)]))

    def test_a_call(self):
        program = ((FIRST, FAILS), ((0, (("call", 1), ("call", 1))), (1, (("show", 0),))))
        found = records(program, [], ([], [(("function", 0), 0)], []))
        self.assertEqual((found["end"], found["path"]), ("failed", [(0, 0), (1, 0)]))
        self.assertEqual(found["finds"], [(("function", 0), 0, "asleep"), (("function", 0), 1, "asleep")])

    def test_of_a_broken_unit(self):
        program = one_function([FIRST, FAILS], ("wake", 1, 1), ("write", 1, 0, 0), ("read", 0, 1, 0))
        unchecked = [(("function", 0), 1), (("function", 0), 2)]
        found = records(program, [], ([], unchecked, []))
        self.assertEqual((found["end"], found["seen"]), ("done", [(("function", 0), 1, 0)]))
        self.assertEqual([status for _, _, status in found["finds"]], ["asleep", "broken", "broken"])

    def test_in_initializers(self):
        reader = (None, 1, (("read", 0, 1, 0), ("write", 2, 0, 0)))
        program = one_function([FIRST, HOLDS_7, reader], ("read", 0, 2, 0), ("show", 0))
        self.assertEqual(full_run(program, [], ([], [(("unit", 2), 0)], [])), (
            "done", [0], [(0, 0), (0, 1)], [(("unit", 2), 1, 0)], {(2, 0): None}, [(0, 0), (2, 0)],
            [(("function", 0), 0, "asleep"), (("unit", 2), 0, "asleep"), (("unit", 2), 1, "waking")],
        ))
        found = records(program, [], ([2], [(("unit", 2), 0)], []))
        self.assertEqual((found["own"], found["order"]), ({(2, 0): None}, [(2, -1), (0, 0)]))

    def test_parents_and_first_calls_stay_checked(self):
        program = ((FIRST, HOLDS_7, (1, 1, (("read", 0, 1, 0),))), ((2, (("read", 0, 2, 0),)),))
        found = records(program, [], ([], [(("function", 0), 0), (("unit", 2), 0), (("unit", 1), 1)], []))
        self.assertEqual((found["own"], found["order"]), ({(2, 0): (("unit", 1), 1, 0)}, [(2, 0), (1, 0)]))

    def test_all_others_stay_checked(self):
        program = one_function([FIRST, HOLDS_7], ("read", 0, 1, 0), ("read", 0, 1, 0), ("write", 1, 0, 0))
        found = records(program, [], ([], [(("function", 0), 0), (("function", 0), 2)], []))
        self.assertEqual(found["order"], [(0, 0), (1, 1)])


class Extra(unittest.TestCase):
    def test_before_the_instruction(self):
        program = one_function([FIRST, HOLDS_7], ("show", 0), ("number", 0, 1), ("write", 1, 0, 0), ("read", 0, 1, 0))
        for place, moment in [(0, 0), (1, 1), (2, 2)]:
            found = records(program, [], ([], [], [(0, place, 1)]))
            self.assertEqual((found["order"], found["seen"]), ([(0, 0), (1, moment)], [(("function", 0), 2, 0)]))
        self.assertEqual(records(program, [], ([], [], [(0, 3, 1)]))["order"], [(0, 0), (1, 2)])

    def test_finds_tell_the_status_before_them_and_nothing_of_them(self):
        program = one_function([FIRST, HOLDS_7], ("read", 0, 1, 0), ("read", 0, 1, 0))
        found = records(program, [], ([], [(("function", 0), 0)], [(0, 0, 1), (0, 1, 0)]))
        self.assertEqual(found["finds"], [
            (("function", 0), 0, "asleep"), (("unit", 1), 1, "waking"), (("function", 0), 1, "awake")])
        self.assertEqual(found["seen"], [(("unit", 1), 1, 0)] * 2)

    def test_several_at_one_place_in_their_order(self):
        units = [FIRST, HOLDS_7, (None, 1, (("read", 0, 1, 0), ("write", 2, 0, 0), ("write", 1, 0, 1)))]
        program = one_function(units, ("show", 0), ("read", 0, 1, 0))
        found = records(program, [], ([], [(("unit", 2), 0)], [(0, 0, 2), (0, 0, 1)]))
        self.assertEqual((found["order"], found["own"]), ([(0, 0), (2, 0), (1, 0)], {(2, 0): None}))
        found = records(program, [], ([], [(("unit", 2), 0)], [(0, 0, 1), (0, 1, 2), (0, 0, 2)]))
        self.assertEqual((found["order"], found["own"]), ([(0, 0), (1, 0), (2, 0)], {(2, 0): (("unit", 1), 1, 0)}))

    def test_of_a_broken_unit_does_nothing(self):
        units = [FIRST, FAILS, (1, 0, ()), EMPTY]
        program = one_function(units, ("wake", 2, 1), ("show", 0), ("show", 0))
        found = records(program, [], ([], [], [(0, 1, 1), (0, 1, 2), (0, 1, 3), (0, 2, 1)]))
        self.assertEqual((found["end"], found["order"]), ("done", [(0, 0), (2, 0), (1, 0), (3, 1)]))

    def test_of_a_unit_that_breaks_ends_the_execution(self):
        program = one_function([FIRST, FAILS, (None, 1, (("write", 2, 0, 0),))], ("show", 0), ("show", 0))
        found = records(program, [], ([], [], [(0, 1, 2), (0, 1, 1), (0, 1, 0)]))
        self.assertEqual((found["end"], found["output"], found["path"]), ("failed", [0], [(0, 0)]))
        self.assertEqual(found["order"], [(0, 0), (2, 1), (1, 1)])
        self.assertEqual(found["finds"], [(("unit", 2), 0, "waking")])

    def test_of_a_unit_with_a_broken_parent_ends_the_execution(self):
        program = one_function([FIRST, FAILS, (1, 0, ())], ("wake", 1, 1), ("show", 0))
        found = records(program, [], ([], [], [(0, 1, 1), (0, 1, 2)]))
        self.assertEqual((found["end"], found["path"]), ("failed", [(0, 0)]))
        self.assertEqual(found["order"], [(0, 0), (1, 0), (2, 1)])

    def test_those_behind_one_that_fails_do_not_take_place(self):
        program = one_function([FIRST, FAILS, EMPTY], ("show", 0))
        self.assertEqual(records(program, [], ([], [], [(0, 0, 1), (0, 0, 2)]))["order"], [(0, 0), (1, 0)])

    def test_one_that_fails_at_a_wake_gives_up_its_frame(self):
        program = one_function([FIRST, FAILS], ("wake", 1, 1), ("show", 0))
        self.assertEqual(records(program)["end"], "done")
        self.assertEqual(full_run(program, [], ([], [], [(0, 0, 1)])), (
            "failed", [], [], [], {}, [(0, 0), (1, 0)], [(("function", 0), 0, "asleep")]))
        program = ((FIRST, FAILS), ((0, (("call", 1),)), (0, (("wake", 0, 1),))))
        self.assertEqual(records(program, [], ([], [], [(1, 0, 1)]))["end"], "failed")

    def test_one_that_does_not_fail_at_a_wake(self):
        program = one_function([FIRST, FAILS, (None, 1, ())], ("wake", 1, 2), ("fail",), ("read", 0, 2, 0))
        found = records(program, [], ([], [], [(0, 0, 2)]))
        self.assertEqual((found["end"], found["path"]), ("done", [(0, 0), (0, 2)]))
        self.assertEqual(found["order"], [(0, 0), (2, 0), (1, 0)])
        self.assertEqual([find for find in found["finds"] if find[0] == ("function", 0)],
                         [(("function", 0), 0, "asleep"), (("function", 0), 2, "awake")])

    def test_at_an_instruction_that_waits(self):
        for word in ["input", "branch"]:
            program = one_function([FIRST, HOLDS_7, FAILS], ("show", 0), (word, 0))
            found = records(program, [], ([], [], [(0, 1, 1)]))
            self.assertEqual((found["end"], found["order"]), ("waits", [(0, 0), (1, 1)]))
            found = records(program, [], ([], [], [(0, 1, 1), (0, 1, 2)]))
            self.assertEqual((found["end"], found["order"]), ("failed", [(0, 0), (1, 1), (2, 1)]))

    def test_at_a_fail(self):
        found = records(one_function([FIRST, HOLDS_7], ("fail",)), [], ([], [], [(0, 0, 1)]))
        self.assertEqual((found["end"], found["path"], found["order"]), ("failed", [], [(0, 0), (1, 0)]))

    def test_when_a_frame_comes_there_again(self):
        # What was accessed at the first coming is awake at the next ones, so only the order tells of them.
        program = one_function([FIRST, HOLDS_7], ("read", 0, 1, 0), ("branch", 0), ("show", 0))
        found = records(program, [1, 1, 0], ([], [(("function", 0), 0)], [(0, 1, 1), (0, 0, 0)]))
        self.assertEqual((found["order"], found["output"]), ([(0, 0), (1, 1)], [7]))
        self.assertEqual([find for find in found["finds"] if find[0] == ("function", 0)],
                         [(("function", 0), 0, "asleep")] + [(("function", 0), 0, "awake")] * 2)

    def test_when_a_frame_comes_there_later(self):
        # Only the second pass comes to place 1.
        program = one_function([FIRST, HOLDS_7], ("branch", 2), ("read", 0, 1, 0), ("branch", 0))
        found = records(program, [1, 1, 0, 0], ([], [], [(0, 1, 1)]))
        self.assertEqual((found["end"], found["order"]), ("done", [(0, 0), (1, 3)]))

    def test_a_waking_is_found_once(self):
        # A frame that has woken a unit does not come to stand at its instruction once more.
        program = one_function([FIRST, HOLDS_7, EMPTY], ("read", 0, 1, 0), ("show", 0))
        found = records(program, [], ([], [], [(0, 0, 2)]))
        self.assertEqual((found["output"], found["order"]), ([7], [(0, 0), (2, 0), (1, 0)]))
        self.assertEqual(found["finds"], [(("function", 0), 0, "asleep"), (("unit", 1), 1, "waking")])

    def test_not_again_when_a_call_has_returned(self):
        # At the call unit 2 is broken, so nothing is done; its child, accessed behind the call, breaks then.
        units = [FIRST, FAILS, (1, 0, ()), EMPTY]
        functions = ((0, (("call", 1), ("show", 0))), (3, (("wake", 1, 1), ("show", 1))))
        found = records((tuple(units), functions), [], ([], [], [(0, 0, 3)]))
        self.assertEqual((found["end"], found["order"]), ("done", [(0, 0), (3, 0), (1, 1)]))
        found = records((tuple(units), functions), [], ([], [], [(0, 1, 2)]))
        self.assertEqual((found["end"], found["path"]), ("failed", [(0, 0), (1, 0), (1, 1)]))

    def test_in_the_function_that_is_named_alone(self):
        functions = ((0, (("call", 1), ("show", 0))), (0, (("show", 0), ("show", 0))))
        program = ((FIRST, HOLDS_7), functions)
        self.assertEqual(records(program, [], ([], [], [(1, 1, 1)]))["order"], [(0, 0), (1, 2)])
        self.assertEqual(records(program, [], ([], [], [(0, 1, 1)]))["order"], [(0, 0), (1, 3)])

    def test_places_that_nothing_comes_to(self):
        program = one_function([FIRST, HOLDS_7], ("branch", 2), ("show", 0))
        self.assertEqual(records(program, [1], ([], [], [(0, 1, 1)]))["order"], [(0, 0)])
        self.assertEqual(records(program, [0], ([], [], [(0, 1, 1)]))["order"], [(0, 0), (1, 1)])


class Together(unittest.TestCase):
    def test_units_ahead_and_unchecked_accesses(self):
        # The document's example: each part alone changes nothing that is seen, both together do.
        reader = (None, 1, (("read", 0, 1, 0), ("write", 2, 0, 0)))
        program = one_function([FIRST, HOLDS_7, reader], ("read", 0, 1, 0), ("read", 0, 2, 0), ("show", 0))
        second = (("unit", 2), 0)
        outputs = [records(program, [], plan)["output"] for plan in [
            ([], [], []), ([2], [], []), ([], [second], []), ([2], [second], [])]]
        self.assertEqual(outputs, [[7], [7], [7], [0]])

    def test_an_extra_access_in_place_of_a_check(self):
        program = one_function([FIRST, HOLDS_7], ("show", 0), ("read", 0, 1, 0), ("read", 0, 1, 0), ("show", 0))
        unchecked = [(("function", 0), 1), (("function", 0), 2)]
        found = records(program, [], ([], unchecked, [(0, 1, 1)]))
        self.assertEqual((found["output"], found["order"]), ([0, 7], [(0, 0), (1, 1)]))
        found = records(program, [], ([], unchecked, [(0, 2, 1)]))
        self.assertEqual((found["output"], found["seen"]), ([0, 7], [None, (("unit", 1), 1, 0)]))
        self.assertEqual(records(program, [], ([], unchecked, []))["output"], [0, 0])

    def test_all_three(self):
        units = [FIRST, HOLDS_7, (None, 1, (("read", 0, 1, 0), ("write", 2, 0, 0))), (2, 1, (("read", 0, 2, 0),)), FAILS]
        functions = ((0, (("call", 1), ("read", 0, 2, 0), ("show", 0), ("wake", 4, 4))), (3, (("show", 0), ("input", 0))))
        plan = ([2], [(("unit", 2), 0), (("function", 0), 0)], [(1, 1, 3), (0, 1, 1)])
        self.assertEqual(full_run((tuple(units), functions), [9], plan), (
            "done", [0, 0], [(0, 0), (1, 0), (1, 1), (0, 1), (0, 2), (0, 3)], [(("unit", 2), 1, 0)],
            {(2, 0): None, (3, 0): (("unit", 2), 1, 0)}, [(2, -1), (0, 0), (3, 2), (1, 3), (4, 5)],
            [(("unit", 2), 0, "asleep"), (("unit", 2), 1, "waking"), (("function", 0), 0, "asleep"),
             (("unit", 3), 0, "awake"), (("function", 0), 1, "awake"), (("unit", 1), 1, "waking"),
             (("function", 0), 3, "asleep")],
        ))


if __name__ == "__main__":
    unittest.main()
