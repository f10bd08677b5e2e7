import copy
import itertools
import unittest

from firstwake.errors import NoProgram
from firstwake.programs import accesses, is_inputs, is_plan
from tests.samples import EXAMPLES, GREATEST, LEAST, LOCKED, NO_PROGRAMS, OTHER_KINDS, RUN, WOKEN, nodes, replaced

NOTHING = ([], [], [])
# In GREATEST function 1 has four instructions, the last one a "wake", function 3 has one.
FULL = (
    [5, 0, 3, 1, 4, 2],
    [(("function", 2), 1), (("unit", 3), 2), (("function", 0), 3), (("unit", 0), 4)],
    [(1, 3, 5), (1, 3, 0), (1, 0, 5), (0, 7, 2), (3, 0, 5)],
)


class Inputs(unittest.TestCase):
    def test_none_to_a_hundred(self):
        for count in [0, 1, 2, 50, 99, 100, 101, 102, 200, 2000]:
            with self.subTest(count=count):
                self.assertIs(is_inputs([7] * count), count <= 100)

    def test_numbers(self):
        for number in [0, 1, 2, 255, 256, 65534, 65535]:
            self.assertIs(is_inputs([number]), True)
            self.assertIs(is_inputs([0, number, 65535]), True)

    def test_no_numbers(self):
        for other in [-1, 65536, 10 ** 20, -10 ** 20, True, False, None, "", "0", (), (0,), [], [0], {}, b"0", 0.0]:
            with self.subTest(other=other):
                for inputs in [[other], [other, 0], [0, other], [0, other, 0], [1] * 99 + [other]]:
                    self.assertIs(is_inputs(inputs), False)

    def test_no_lists(self):
        for thing in [None, True, False, 0, 5, "", "00", b"", (), (0,), (0, 1), {}, {0: 0}, ([],), ([0],)]:
            with self.subTest(thing=thing):
                self.assertIs(is_inputs(thing), False)

    def test_arguments_stay(self):
        inputs = [0, 5, 65535]
        is_inputs(inputs)
        self.assertEqual(inputs, [0, 5, 65535])


class Plans(unittest.TestCase):
    def assert_plan(self, plan, expected, program=GREATEST):
        with self.subTest(plan=plan):
            self.assertIs(is_plan(program, plan), expected)

    def test_plans(self):
        for program in [LEAST, GREATEST, *EXAMPLES]:
            self.assert_plan(NOTHING, True, program)
        self.assert_plan(FULL, True)

    def test_plans_of_the_examples(self):
        second = (("unit", 2), 0)
        for plan in [([2], [second], []), ([2], [], []), ([], [second], [])]:
            self.assert_plan(plan, True, RUN)
        self.assert_plan(([2], [], []), True, WOKEN)
        self.assert_plan(([2, 3], [], []), True, WOKEN)
        self.assert_plan(([], [(("unit", 2), 0)], []), True, LOCKED)

    def test_lists_of_the_plan_are_exchanged(self):
        for order in itertools.permutations(range(3)):
            self.assert_plan(tuple(FULL[at] for at in order), order == (0, 1, 2))

    def test_units_ahead(self):
        for count in range(7):
            for ahead in itertools.permutations(range(6), count):
                self.assertIs(is_plan(GREATEST, (list(ahead), [], [])), True)
        for ahead in [[6], [-1], [0, 6], [0, 0], [0, 1, 0], [5, 5], [0, 1, 2, 3, 4, 5, 0], [True], [False], [0, True],
                      [None], ["0"], [(0,)], [[0]], [10 ** 20], [1] * 2000, [[]], [{}], (0,), (), {}, "", None, 0]:
            self.assert_plan((ahead, [], []), False)

    def test_units_ahead_are_units_of_the_program(self):
        for unit in range(-1, 8):
            for program in [LEAST, LOCKED, GREATEST]:
                self.assert_plan(([unit], [], []), 0 <= unit < len(program[0]), program)

    def test_unchecked_accesses(self):
        wakes = [(("function", 1), 3), (("function", 2), 0)]
        bodies = [("function", number) for number in range(-1, 6)] + [("unit", number) for number in range(-1, 8)]
        for body in bodies:
            for place in range(-1, 10):
                access = (body, place)
                right = access in accesses(GREATEST) and access not in wakes
                self.assert_plan(([], [access], []), right)

    def test_different_unchecked_accesses(self):
        first, second, third = (("function", 2), 1), (("unit", 3), 2), (("unit", 3), 0)
        for unchecked in itertools.product([first, second, third], repeat=3):
            self.assert_plan(([], list(unchecked), []), len(set(unchecked)) == 3)
        self.assert_plan(([], [first] * 2, []), False)
        self.assert_plan(([], [first] * 2000, []), False)

    def test_all_unchecked_in_any_order(self):
        unchecked = [spot for spot in accesses(GREATEST) if spot not in [(("function", 1), 3), (("function", 2), 0)]]
        self.assert_plan(([], unchecked, []), True)
        self.assert_plan(([], unchecked[::-1], []), True)
        self.assert_plan(([], accesses(GREATEST), []), False)

    def test_no_unchecked_accesses(self):
        for access in [None, True, 0, "", (), [], {}, ("unit", 3), ("unit", 3, 0), (("unit", 3),), (("unit",), 0),
                       (("unit", 3, 0), 0), (("unit", 3), 0, 0), [("unit", 3), 0], (["unit", 3], 0), (("Unit", 3), 0),
                       (("initializer", 3), 0), ((3, "unit"), 0), (0, ("unit", 3)), (("unit", "3"), 0),
                       (("unit", 3), "0"), (("unit", 3), None), (("unit", None), 0), ((None, 3), 0), (([], 3), 0),
                       (({}, 3), 0), (("unit", [3]), 0), (("unit", 3), [0]), (("unit", 3), False), ((0, 3), 0),
                       (("function", 2), True), (("function", True), 2), (("unit", False), 3), ("ab", 0)]:
            self.assert_plan(([], [access], []), False)
        for unchecked in [None, True, 0, "", (), {}, ((("unit", 3), 0),), {(("unit", 3), 0): 0}, (("unit", 3), 0)]:
            self.assert_plan(([], unchecked, []), False)

    def test_extra_accesses(self):
        sizes = [len(body) for _, body in GREATEST[1]]
        self.assertEqual(sizes, [8, 4, 3, 1])
        for function in range(-1, 6):
            for place in range(-1, 10):
                for unit in range(-1, 8):
                    right = 0 <= function < 4 and 0 <= place < sizes[function] and 0 <= unit < 6
                    self.assertIs(is_plan(GREATEST, ([], [], [(function, place, unit)])), right)

    def test_all_extra_accesses_at_once(self):
        everything = [
            (function, place, unit)
            for unit in range(6) for function in range(4) for place in range(len(GREATEST[1][function][1]))
        ]
        self.assert_plan(([], [], everything), True)
        self.assert_plan(([], [], everything + everything[:1]), False)
        self.assert_plan(([], [], everything + [(3, 1, 0)]), False)

    def test_different_extra_accesses(self):
        for extra in itertools.product([(1, 3, 5), (1, 3, 4), (0, 3, 5)], repeat=3):
            self.assert_plan(([], [], list(extra)), len(set(extra)) == 3)
        self.assert_plan(([], [], [(1, 3, 5)] * 2), False)

    def test_no_extra_accesses(self):
        for extra in [None, True, 0, "", "000", (), [], {}, [0, 0, 0], (0, 0), (0, 0, 0, 0), (0, 0, None),
                      (None, 0, 0), (0, None, 0), ("0", 0, 0), (0, "0", 0), (0, 0, "0"), (False, 0, 0), (0, False, 0),
                      (0, 0, False), (True, 0, 0), (0, True, 0), (0, 0, True), (("function", 0), 0, 0),
                      ([0], 0, 0), (0, [0], 0), (0, 0, [0]), (10 ** 20, 0, 0), (0, 10 ** 20, 0), (0, 0, 10 ** 20)]:
            self.assert_plan(([], [], [extra]), False)
        for extra in [None, True, 0, "", (), {}, ((0, 0, 0),), (0, 0, 0), {(0, 0, 0): 0}]:
            self.assert_plan(([], [], extra), False)

    def test_booleans_at_every_depth(self):
        for path, _ in nodes(FULL):
            for value in [True, False]:
                self.assert_plan(replaced(FULL, path, value), False)

    def test_lists_for_tuples_and_tuples_for_lists(self):
        for path, part in nodes(FULL):
            if isinstance(part, tuple):
                self.assert_plan(replaced(FULL, path, list(part)), False)
            if isinstance(part, list):
                self.assert_plan(replaced(FULL, path, tuple(part)), False)

    def test_other_kinds_at_every_depth(self):
        for path, _ in nodes(FULL):
            for value in OTHER_KINDS:
                right = len(path) == 1 and (value == [] or path == (0,) and value == [0])
                self.assert_plan(replaced(FULL, path, value), right)

    def test_parts_left_out_or_too_many(self):
        for path, part in nodes(FULL):
            if isinstance(part, tuple):
                for other in [part[:-1], part[1:], part + (0,), part + ([],), (part,), part + part]:
                    self.assert_plan(replaced(FULL, path, other), False)

    def test_no_plans(self):
        for thing in [*OTHER_KINDS, ([], []), ([], [], [], []), [[], [], []], ((), (), ()), {0: [], 1: [], 2: []}]:
            self.assert_plan(thing, False)

    def test_no_program(self):
        for program in NO_PROGRAMS:
            for thing in [NOTHING, None, 5]:
                with self.subTest(program=program, thing=thing), self.assertRaises(NoProgram):
                    is_plan(program, thing)

    def test_arguments_stay(self):
        plan = copy.deepcopy(FULL)
        is_plan(GREATEST, plan)
        self.assertEqual(plan, FULL)


if __name__ == "__main__":
    unittest.main()
