import itertools
import random
import unittest

from firstwake.errors import NoProgram, NoUnit
from firstwake.programs import is_program
from firstwake.reaches import chain, loops, reach
from tests.samples import BROKEN, EXAMPLES, GREATEST, LEAST, LIBRARY, LOCKED, NO_PROGRAMS, RUN, WOKEN

NO_UNITS = [-1, 6, 7, 10 ** 20, -10 ** 20, True, False, None, "", "0", (), (0,), [], [0], {}, "unit", ("unit", 0)]
CODE = ((0, (("show", 0),)),)


def program_of(*units):
    """Return a program of units (parent, what the initializer does): a number reads, a text "wN" writes."""
    made = []
    for parent, actions in units:
        body = []
        for action in actions:
            if isinstance(action, int):
                body.append(("read", 0, action, 0))
            elif action == "fail":
                body.append(("fail",))
            else:
                body.append(("write", int(action[1:]), 0, 0))
        made.append((parent, 1, tuple(body)))
    return (tuple(made), CODE)


def followers(program):
    """Return a list with the set of the units that each unit accesses, worked out from the document's words."""
    found = []
    for parent, _, body in program[0]:
        words = [instruction[0] for instruction in body]
        before = body[:words.index("fail")] if "fail" in words else body
        read = {instruction[2] for instruction in before if instruction[0] == "read"}
        written = {instruction[1] for instruction in before if instruction[0] == "write"}
        found.append(read | written | ({parent} - {None}))
    return found


def distances(program):
    """Return a dict from pairs of units to the least number of steps, where there is a chain."""
    many = len(program[0])
    known = {(unit, unit): 0 for unit in range(many)}
    for unit, others in enumerate(followers(program)):
        for other in others - {unit}:
            known[unit, other] = 1
    for middle, first, last in itertools.product(range(many), repeat=3):
        if (first, middle) in known and (middle, last) in known:
            total = known[first, middle] + known[middle, last]
            known[first, last] = min(total, known.get((first, last), total))
    return known


def cycled(program):
    """Return the units on simple cycles of two or more units, found by trying all of these."""
    links = followers(program)
    found = set()
    for size in range(2, len(links) + 1):
        for cycle in itertools.permutations(range(len(links)), size):
            if all(cycle[at] in links[cycle[at - 1]] for at in range(size)):
                found.update(cycle)
    return tuple(sorted(found))


def random_program(chance):
    units = []
    many = chance.randint(1, 6)
    for number in range(many):
        parent = chance.choice([None, *range(number)])
        actions = []
        for _ in range(chance.randint(0, 3)):
            unit = chance.randrange(many)
            actions.append(chance.choice([unit, unit, f"w{unit}", f"w{unit}", "fail"]))
        units.append((parent, actions))
    return program_of(*units)


class Reach(unittest.TestCase):
    def test_the_unit_itself(self):
        self.assertEqual(reach(LEAST, 0), (0,))
        self.assertEqual(reach(BROKEN, 1), (1,))

    def test_parents(self):
        program = program_of((None, []), (0, []), (1, []), (None, []), (0, []))
        self.assertEqual([reach(program, unit) for unit in range(5)], [(0,), (0, 1), (0, 1, 2), (3,), (0, 4)])

    def test_reads_and_writes_of_initializers(self):
        program = program_of((None, [2]), (None, ["w0"]), (None, []), (None, ["w1", 4]), (None, []))
        self.assertEqual([reach(program, unit) for unit in range(5)], [(0, 2), (0, 1, 2), (2,), (0, 1, 2, 3, 4), (4,)])

    def test_parents_of_what_is_accessed(self):
        program = program_of((None, []), (0, []), (None, [1]))
        self.assertEqual(reach(program, 2), (0, 1, 2))

    def test_behind_a_first_fail(self):
        program = program_of((None, []), (None, []), (0, ["fail", 1]), (None, [0, "fail", 1, "fail", "w2"]))
        self.assertEqual([reach(program, unit) for unit in (2, 3)], [(0, 2), (0, 3)])

    def test_a_failing_unit_on_the_way(self):
        program = program_of((None, []), (None, [0, "fail"]), (None, [1, 3]), (None, []))
        self.assertEqual(reach(program, 2), (0, 1, 2, 3))

    def test_other_instructions_access_nothing(self):
        body = (("number", 1, 1), ("copy", 1, 2), ("add", 2, 1))
        self.assertEqual(reach((((None, 1, ()), (None, 1, ()), (None, 1, body)), CODE), 2), (2,))

    def test_functions_mean_nothing(self):
        for program in EXAMPLES + [GREATEST]:
            for unit in range(len(program[0])):
                self.assertEqual(reach(program, unit), reach((program[0], CODE), unit))

    def test_units_that_use_one_another(self):
        self.assertEqual([reach(LOCKED, unit) for unit in range(3)], [(0,), (1, 2), (1, 2)])

    def test_a_unit_that_uses_itself(self):
        self.assertEqual(reach(program_of((None, [0, "w0"])), 0), (0,))

    def test_examples(self):
        self.assertEqual([reach(RUN, unit) for unit in range(3)], [(0,), (1,), (1, 2)])
        self.assertEqual([reach(WOKEN, unit) for unit in range(4)], [(0,), (1,), (1, 2), (1, 3)])
        self.assertEqual([reach(LIBRARY, unit) for unit in range(2)], [(0,), (1,)])
        self.assertEqual([reach(GREATEST, unit) for unit in range(6)],
                         [(0, 5), (0, 1, 5), (0, 1, 2, 5), (3, 4), (3, 4), (0, 5)])

    def test_a_tuple_of_integers(self):
        self.assertIs(type(reach(GREATEST, 2)), tuple)
        self.assertEqual([type(unit) for unit in reach(GREATEST, 2)], [int] * 4)


class Chain(unittest.TestCase):
    def assert_chain(self, program, unit, other, steps):
        found = chain(program, unit, other)
        self.assertIs(type(found), list)
        self.assertEqual((found[0], found[-1], len(found)), (unit, other, steps + 1))
        links = followers(program)
        for before, behind in zip(found, found[1:]):
            self.assertIn(behind, links[before])

    def test_of_length_one(self):
        for program in EXAMPLES + [GREATEST, LEAST, program_of((None, [0]))]:
            for unit in range(len(program[0])):
                self.assertEqual(chain(program, unit, unit), [unit])

    def test_parents_and_accesses(self):
        program = program_of((None, [3]), (0, []), (1, []), (None, ["w4"]), (None, []))
        self.assertEqual(chain(program, 2, 4), [2, 1, 0, 3, 4])
        self.assertEqual(chain(program, 1, 3), [1, 0, 3])
        self.assertEqual(chain(program, 2, 1), [2, 1])

    def test_the_shortest(self):
        program = program_of((None, [1, 2]), (None, [2]), (None, [3, 4]), (None, [5]), (None, [3]), (None, []))
        self.assertEqual(chain(program, 0, 5), [0, 2, 3, 5])
        program = program_of((None, []), (0, [2]), (None, [0]))
        self.assertEqual(chain(program, 1, 0), [1, 0])

    def test_any_one_of_several(self):
        program = program_of((None, [1, 2]), (None, [3]), (None, [3]), (None, []))
        self.assertIn(chain(program, 0, 3), [[0, 1, 3], [0, 2, 3]])

    def test_around_a_loop(self):
        self.assertEqual(chain(LOCKED, 1, 2), [1, 2])
        self.assertEqual(chain(LOCKED, 2, 1), [2, 1])

    def test_none(self):
        self.assertIsNone(chain(LOCKED, 0, 1))
        self.assertIsNone(chain(LOCKED, 1, 0))
        self.assertIsNone(chain(RUN, 1, 2))
        self.assertIsNone(chain(program_of((None, []), (0, [])), 0, 1))

    def test_behind_a_first_fail(self):
        program = program_of((None, []), (None, []), (0, [0, "fail", 1]))
        self.assertIsNone(chain(program, 2, 1))
        self.assertEqual(chain(program, 2, 0), [2, 0])

    def test_a_new_list_each_time(self):
        first = chain(LOCKED, 1, 2)
        first.clear()
        self.assertEqual(chain(LOCKED, 1, 2), [1, 2])


class Loops(unittest.TestCase):
    def test_none(self):
        for program in [LEAST, RUN, BROKEN, WOKEN, LIBRARY]:
            self.assertEqual(loops(program), ())

    def test_units_that_use_one_another(self):
        self.assertEqual(loops(LOCKED), (1, 2))

    def test_a_unit_that_uses_itself(self):
        self.assertEqual(loops(program_of((None, [0, "w0"]), (0, [1]))), ())

    def test_a_unit_that_uses_itself_within_a_loop(self):
        self.assertEqual(loops(program_of((None, [0, 1]), (None, [1, 0]))), (0, 1))

    def test_parents(self):
        self.assertEqual(loops(program_of((None, [1]), (0, []))), (0, 1))
        self.assertEqual(loops(program_of((None, ["w2"]), (0, []), (1, []), (1, []))), (0, 1, 2))

    def test_units_before_and_behind_a_loop(self):
        program = program_of((None, [1]), (None, [2]), (None, [3]), (None, [1, 4]), (None, [5]), (None, []))
        self.assertEqual(loops(program), (1, 2, 3))

    def test_two_loops(self):
        self.assertEqual(loops(program_of((None, [3]), (None, [2]), (None, [1]), (None, [0]))), (0, 1, 2, 3))
        self.assertEqual(loops(GREATEST), (0, 3, 4, 5))

    def test_behind_a_first_fail(self):
        self.assertEqual(loops(program_of((None, [1]), (None, ["fail", 0]))), ())
        self.assertEqual(loops(program_of((None, [1]), (None, [0, "fail"]))), (0, 1))
        self.assertEqual(loops(program_of((None, [1]), (0, ["fail"]))), (0, 1))

    def test_a_tuple(self):
        self.assertIs(type(loops(LOCKED)), tuple)
        self.assertIs(type(loops(LEAST)), tuple)


class AgainstAllWays(unittest.TestCase):
    def test_random_programs(self):
        chance = random.Random(8)
        for _ in range(400):
            program = random_program(chance)
            self.assertTrue(is_program(program))
            known = distances(program)
            many = range(len(program[0]))
            for unit in many:
                self.assertEqual(reach(program, unit), tuple(other for other in many if (unit, other) in known))
                for other in many:
                    found = chain(program, unit, other)
                    if (unit, other) in known:
                        Chain.assert_chain(self, program, unit, other, known[unit, other])
                    else:
                        self.assertIsNone(found)
            self.assertEqual(loops(program), cycled(program))


class Wrong(unittest.TestCase):
    def test_no_program(self):
        for program in NO_PROGRAMS:
            for unit in [0, 9, None]:
                with self.subTest(program=program, unit=unit):
                    with self.assertRaises(NoProgram):
                        reach(program, unit)
                    with self.assertRaises(NoProgram):
                        chain(program, unit, 0)
                    with self.assertRaises(NoProgram):
                        chain(program, 0, unit)
                    with self.assertRaises(NoProgram):
                        loops(program)

    def test_no_unit(self):
        for unit in NO_UNITS:
            with self.subTest(unit=unit):
                with self.assertRaises(NoUnit):
                    reach(GREATEST, unit)
                with self.assertRaises(NoUnit):
                    chain(GREATEST, unit, 0)
                with self.assertRaises(NoUnit):
                    chain(GREATEST, 0, unit)
                with self.assertRaises(NoUnit):
                    chain(GREATEST, unit, unit)

    def test_no_unit_of_this_program(self):
        for program in [LEAST, *EXAMPLES]:
            many = len(program[0])
            self.assertIn(many - 1, reach(program, many - 1))
            for call in [lambda: reach(program, many), lambda: chain(program, many, 0), lambda: chain(program, 0, many)]:
                with self.assertRaises(NoUnit):
                    call()


if __name__ == "__main__":
    unittest.main()
