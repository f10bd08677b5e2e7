import unittest

from firstwake.programs import accessed_unit, accesses, is_program
from tests.samples import (
    EXAMPLES, GREATEST, LEAST, LIBRARY, NO_PROGRAMS, OTHER_KINDS, functions_with, nodes, replaced, units_with,
)

# For each word: operands that are right, and operands that are wrong, in initializers and in functions.
SHARED = {
    "number": ([(s, c) for s in (0, 1, 2) for c in (0, 1, 7, 65534, 65535)],
               [(-1, 0), (3, 0), (0, -1), (0, 65536), (10 ** 20, 0), (0, 10 ** 20), (0, -10 ** 20), (65535, 0)]),
    "copy": ([(s, t) for s in (0, 1, 2) for t in (0, 1, 2)], [(3, 0), (0, 3), (-1, 0), (0, -1)]),
    "add": ([(s, c) for s in (0, 1, 2) for c in (0, 1, 65535)], [(3, 0), (-1, 0), (0, -1), (0, 65536)]),
    # The units have 1, 2, 0 and 3 fields.
    "read": ([(s, u, f) for s in (0, 1, 2) for u, f in [(0, 0), (1, 0), (1, 1), (3, 0), (3, 1), (3, 2)]],
             [(3, 0, 0), (-1, 0, 0), (0, 4, 0), (0, -1, 0), (0, 0, 1), (0, 0, -1), (0, 1, 2), (0, 2, 0), (0, 2, -1),
              (0, 3, 3), (0, 3, -1), (0, 0, 2)]),
    "write": ([(u, f, s) for s in (0, 1, 2) for u, f in [(0, 0), (1, 0), (1, 1), (3, 0), (3, 1), (3, 2)]],
              [(0, 0, 3), (0, 0, -1), (4, 0, 0), (-1, 0, 0), (0, 1, 0), (0, -1, 0), (1, 2, 0), (2, 0, 0), (2, -1, 0),
               (3, 3, 0), (3, -1, 0)]),
    "fail": ([()], [(0,), (None,), ((),)]),
}
# The same for functions, there at place 1 of the four of function 1 of four.
ALONE = {
    "input": ([(0,), (1,), (2,)], [(-1,), (3,), (10 ** 20,)]),
    "show": ([(0,), (1,), (2,)], [(-1,), (3,), (65535,)]),
    "branch": ([(k,) for k in (0, 1, 2, 3, 4)], [(-1,), (5,), (10 ** 20,)]),
    "call": ([(2,), (3,)], [(0,), (1,), (4,), (-1,)]),
    "wake": ([(u, k) for u in (0, 1, 2, 3) for k in (2, 3, 4)],
             [(0, 0), (0, 1), (0, 5), (0, -1), (4, 2), (-1, 2)]),
}
SHOW = ("show", 0)


def at_place_1(instruction, number=1):
    return functions_with((SHOW, instruction, SHOW, SHOW), number)


class Accepted(unittest.TestCase):
    def test_programs(self):
        for program in [LEAST, GREATEST, *EXAMPLES]:
            self.assertIs(is_program(program), True)

    def test_no_programs(self):
        for thing in NO_PROGRAMS:
            with self.subTest(thing=thing):
                self.assertIs(is_program(thing), False)


class Limits(unittest.TestCase):
    def assert_counts(self, make, low, high):
        for count in range(high + 3):
            with self.subTest(count=count):
                self.assertIs(is_program(make(count)), low <= count <= high)

    def test_one_to_six_units(self):
        self.assert_counts(lambda count: (LEAST[0] * count, LEAST[1]), 1, 6)

    def test_one_to_four_functions(self):
        self.assert_counts(lambda count: (LEAST[0], LEAST[1] * count), 1, 4)

    def test_initializers_of_up_to_six_instructions(self):
        self.assert_counts(lambda count: units_with((("fail",),) * count), 0, 6)

    def test_functions_of_one_to_eight_instructions(self):
        for number in range(4):
            self.assert_counts(lambda count: functions_with((SHOW,) * count, number), 1, 8)

    def test_no_to_three_fields(self):
        for fields in range(-2, 6):
            with self.subTest(fields=fields):
                self.assertIs(is_program((((None, fields, ()),), LEAST[1])), 0 <= fields <= 3)
                self.assertIs(is_program((LEAST[0] + ((0, fields, ()),), LEAST[1])), 0 <= fields <= 3)

    def test_parents_are_earlier_units(self):
        for parent in range(-3, 9):
            for number in range(6):
                units = list(LEAST[0] * 6)
                units[number] = (parent, 0, ())
                with self.subTest(parent=parent, number=number):
                    self.assertIs(is_program((tuple(units), LEAST[1])), 0 <= parent < number)

    def test_functions_belong_to_units(self):
        for unit in range(-2, 9):
            for many in range(1, 7):
                with self.subTest(unit=unit, many=many):
                    functions = ((0, (SHOW,)), (unit, (SHOW,)))
                    self.assertIs(is_program((LEAST[0] * many, functions)), 0 <= unit < many)


class Instructions(unittest.TestCase):
    def test_shared_ones(self):
        for word, (right, wrong) in SHARED.items():
            for operands in right + wrong:
                instruction = (word, *operands)
                with self.subTest(instruction):
                    self.assertIs(is_program(units_with((instruction,))), operands in right)
                    self.assertIs(is_program(units_with((("fail",),) * 5 + (instruction,))), operands in right)
                    self.assertIs(is_program(at_place_1(instruction)), operands in right)

    def test_those_of_functions_alone(self):
        for word, (right, wrong) in ALONE.items():
            for operands in right + wrong:
                instruction = (word, *operands)
                with self.subTest(instruction):
                    self.assertIs(is_program(at_place_1(instruction)), operands in right)
                    self.assertIs(is_program(units_with((instruction,))), False)
                    self.assertIs(is_program(units_with((("fail",), instruction))), False)

    def test_a_call_is_of_a_later_function(self):
        for number in range(4):
            for called in range(-1, 6):
                with self.subTest(number=number, called=called):
                    program = at_place_1(("call", called), number)
                    self.assertIs(is_program(program), number < called <= 3)

    def test_a_call_is_of_a_function_that_there_is(self):
        for many in range(1, 5):
            for called in range(6):
                functions = ((0, (("call", called),)),) + LEAST[1] * (many - 1)
                self.assertIs(is_program((LEAST[0], functions)), 0 < called < many)

    def test_a_wake_leads_on(self):
        for size in range(1, 9):
            for place in range(size):
                for aim in range(-1, 11):
                    body = [SHOW] * size
                    body[place] = ("wake", 2, aim)
                    with self.subTest(size=size, place=place, aim=aim):
                        self.assertIs(is_program(functions_with(tuple(body))), place < aim <= size)

    def test_a_branch_leads_to_any_place_and_the_end(self):
        for size in range(1, 9):
            for place in range(size):
                for aim in range(-1, 11):
                    body = [SHOW] * size
                    body[place] = ("branch", aim)
                    with self.subTest(size=size, place=place, aim=aim):
                        self.assertIs(is_program(functions_with(tuple(body))), 0 <= aim <= size)

    def test_each_instruction_has_just_its_parts(self):
        for word, (right, _) in [*SHARED.items(), *ALONE.items()]:
            right = right[-1]
            for operands in [right[:-1], right[1:], right + (0,), right + (0, 0), (), (0,), (0, 0), (0, 0, 0, 0)]:
                if len(operands) != len(right):
                    with self.subTest(word, operands=operands):
                        self.assertIs(is_program(at_place_1((word, *operands))), False)
                        self.assertIs(is_program(units_with(((word, *operands),))), False)

    def test_other_words(self):
        for word in ["", "x", "Read", "reads", "read ", "stop", "field", "slot", "unit", "place", "later place",
                     0, None, True, b"read", (), [], {}, ("read",), ["read"]]:
            for operands in [(), (0,), (0, 0), (0, 0, 0)]:
                with self.subTest(word=word):
                    self.assertIs(is_program(at_place_1((word, *operands))), False)
                    self.assertIs(is_program(units_with(((word, *operands),))), False)


class OtherValues(unittest.TestCase):
    def setUp(self):
        self.programs = [LEAST, GREATEST, *EXAMPLES]

    def test_lists_in_place_of_tuples(self):
        for program in self.programs:
            for path, part in nodes(program):
                if isinstance(part, tuple):
                    self.assertIs(is_program(replaced(program, path, list(part))), False)

    def test_booleans_in_place_of_numbers_and_of_all_else(self):
        for program in self.programs:
            for path, _ in nodes(program):
                for value in [True, False]:
                    self.assertIs(is_program(replaced(program, path, value)), False)

    def test_other_kinds_at_every_depth(self):
        for program in self.programs:
            for path, part in nodes(program):
                for value in OTHER_KINDS:
                    right = value in self.right_in_place_of(path, part)
                    with self.subTest(path=path, value=value):
                        self.assertIs(is_program(replaced(program, path, value)), right)

    def right_in_place_of(self, path, part):
        if len(path) == 3 and path[0] == 0 and path[2] == 0:
            return [None]
        if len(path) == 3 and path[0] == 0 and path[2] == 2:
            return [(), (("fail",),)]
        if len(path) == 3 and path[0] == 1 and path[2] == 1:
            return [(("fail",),)]
        return []

    def test_parts_left_out_or_too_many(self):
        for program in self.programs:
            for path, part in nodes(program):
                # The numbers of units, of functions and of instructions are tested with their limits.
                fixed = len(path) in (0, 2, 4)
                if isinstance(part, tuple) and fixed:
                    for other in [part[:-1], part[1:], part + (0,), part + ((),), (part,), part + part]:
                        with self.subTest(path=path, other=other):
                            self.assertIs(is_program(replaced(program, path, other)), False)

    def test_parts_exchanged(self):
        self.assertIs(is_program(LEAST[::-1]), False)
        self.assertIs(is_program(GREATEST[::-1]), False)
        self.assertIs(is_program((GREATEST[0][::-1], GREATEST[1])), False)
        self.assertIs(is_program((LIBRARY[0], LIBRARY[1][::-1])), False)

    def test_what_calls_return(self):
        for program in self.programs:
            found = accesses(program)
            self.assertIs(is_program(found), False)
            self.assertIs(is_program(tuple(found)), False)
            self.assertIs(is_program((program, found)), False)
            self.assertIs(is_program(is_program(program)), False)

    def test_large_things(self):
        for thing in [(0,) * 2000, [0] * 2000, (LEAST[0] * 300, LEAST[1]), (LEAST[0], ((0, (SHOW,) * 2000),)),
                      {number: 0 for number in range(2000)}]:
            self.assertIs(is_program(thing), False)


class Accesses(unittest.TestCase):
    def test_in_initializers_and_functions(self):
        self.assertEqual(accesses(GREATEST), [
            (("function", 0), 3), (("function", 0), 4),
            (("function", 1), 2), (("function", 1), 3),
            (("function", 2), 0), (("function", 2), 1), (("function", 2), 2),
            (("unit", 0), 3), (("unit", 0), 4), (("unit", 2), 0), (("unit", 3), 0), (("unit", 3), 2),
        ])

    def test_each_word(self):
        access_words = ["read", "write", "call", "wake"]
        for word, (right, _) in [*SHARED.items(), *ALONE.items()]:
            with self.subTest(word):
                expected = [(("function", 1), 1)] if word in access_words else []
                self.assertEqual(accesses(at_place_1((word, *right[0]))), expected)

    def test_of_the_examples(self):
        self.assertEqual(accesses(EXAMPLES[0]), [
            (("function", 0), 0), (("function", 0), 1), (("unit", 1), 1), (("unit", 2), 0), (("unit", 2), 1),
        ])
        self.assertEqual(accesses(EXAMPLES[1]), [(("function", 0), 1)])
        self.assertEqual(accesses(EXAMPLES[6]), [])

    def test_ascending(self):
        for program in EXAMPLES + [GREATEST]:
            self.assertEqual(accesses(program), sorted(accesses(program)))

    def test_none(self):
        found = accesses(LEAST)
        self.assertEqual(found, [])
        self.assertIs(type(found), list)

    def test_tuples_of_names_and_places(self):
        for body, place in accesses(GREATEST):
            self.assertEqual([type(part) for part in (body, *body, place)], [tuple, str, int, int])

    def test_units_of_accesses(self):
        bodies = {("function", number): body for number, (_, body) in enumerate(GREATEST[1])}
        bodies.update({("unit", number): unit[2] for number, unit in enumerate(GREATEST[0])})
        found = [accessed_unit(GREATEST, bodies[body][place]) for body, place in accesses(GREATEST)]
        self.assertEqual(found, [3, 4, 1, 1, 2, 1, 0, 5, 0, 2, 4, 5])

    def test_units_of_other_instructions(self):
        for word in ["number", "copy", "add", "fail", "input", "show", "branch"]:
            operands = {**SHARED, **ALONE}[word][0][0]
            self.assertIsNone(accessed_unit(GREATEST, (word, *operands)))

    def test_a_new_list_each_time(self):
        first = accesses(GREATEST)
        second = accesses(GREATEST)
        self.assertIsNot(first, second)
        kept = list(first)
        first.clear()
        self.assertEqual(second, kept)
        self.assertEqual(accesses(GREATEST), kept)


if __name__ == "__main__":
    unittest.main()
