"""Placements, compared with the trial of all sets of places."""

import itertools
import random
import unittest

from firstwake.errors import NoFunction, NoPlaces, NoPrices, NoUnit
from firstwake.placements import are_walks, is_placement, placed, placement
from firstwake.programs import is_plan
from tests.drawn import drawn_program
from tests.samples import EXAMPLES, FIRST, OTHER_KINDS, PLACED, nodes, one_function, replaced

ONE = (None, 1, ())


def following(program, function, unit, place):
    """Return the places that a walk goes on to, told by the document's words."""
    code = program[1][function][1]
    word, *operands = code[place]
    if word == "fail":
        found = []
    elif word == "branch":
        found = [place + 1, operands[0]]
    elif word == "wake" and operands[0] == unit:
        found = [operands[1]]
    elif word == "wake":
        found = [place + 1, operands[1]]
    else:
        found = [place + 1]
    return [other for other in found if other != len(code)]


def targets(program, function, unit):
    found = []
    for place, instruction in enumerate(program[1][function][1]):
        owner = {"read": lambda: instruction[2], "write": lambda: instruction[1],
                 "call": lambda: program[1][instruction[1]][0]}.get(instruction[0], lambda: None)()
        if owner == unit:
            found.append(place)
    return found


def simple_walks(program, function, unit):
    """Return all walks from place 0 to a target that come to no place twice."""
    walks, open_ones = [], [[0]]
    while open_ones:
        walk = open_ones.pop()
        if walk[-1] in targets(program, function, unit):
            walks.append(walk)
        open_ones.extend(walk + [place] for place in set(following(program, function, unit, walk[-1])) - set(walk))
    return walks


def all_placements(program, function, unit):
    walks = simple_walks(program, function, unit)
    places = range(len(program[1][function][1]))
    return [
        list(chosen) for many in range(len(places) + 1) for chosen in itertools.combinations(places, many)
        if all(set(chosen) & set(walk) for walk in walks)
    ]


def parts(program):
    return itertools.product(range(len(program[1])), range(len(program[0])))


class Placements(unittest.TestCase):
    def assert_placement(self, program, function, unit, prices):
        """Test all that the document says of what placement returns; return the price and the places."""
        price, places, walks = placement(program, function, unit, prices)
        right = all_placements(program, function, unit)
        self.assertIn(places, right)
        self.assertEqual(sum(prices[place] for place in places), price)
        self.assertEqual(price, min(sum(prices[place] for place in other) for other in right))
        self.assertEqual(sum(number for _, number in walks), price)
        self.assertIs(are_walks(program, function, unit, prices, walks), True)
        self.assertIs(is_placement(program, function, unit, places), True)
        for place in places:
            self.assertNotIn([other for other in places if other != place], right)
        for walk, number in walks:
            self.assertEqual(walk[0], 0)
            self.assertIn(walk[-1], targets(program, function, unit))
            self.assertGreaterEqual(number, 1)
            for one, other in itertools.pairwise(walk):
                self.assertIn(other, following(program, function, unit, one))
        for place, most in enumerate(prices):
            self.assertLessEqual(sum(number for walk, number in walks if place in walk), most)
        return price, places

    def test_the_example(self):
        self.assertEqual(placement(PLACED, 0, 1, [5, 1, 1])[:2], (2, [1, 2]))
        self.assertEqual(placement(PLACED, 0, 1, [1, 1, 1])[:2], (1, [0]))
        self.assertEqual(placement(PLACED, 0, 0, [1, 1, 1]), (0, [], []))
        self.assertEqual(self.assert_placement(PLACED, 0, 1, [2, 1, 1])[0], 2)

    def test_drawn_programs(self):
        dice = random.Random("prices")
        prices_sum = 0
        for seed in range(150):
            program = drawn_program("placements", seed, most_units=3, instructions=6)
            for function, unit in parts(program):
                many = len(program[1][function][1])
                for highest in [0, 1, 2, 9, 65535]:
                    prices = [dice.randint(0, highest) for _ in range(many)]
                    prices_sum += self.assert_placement(program, function, unit, prices)[0] > 0
                self.assert_placement(program, function, unit, [65535] * many)
                self.assert_placement(program, function, unit, [0] * many)
        self.assertGreater(prices_sum, 300)

    def test_examples(self):
        for program in EXAMPLES:
            for function, unit in parts(program):
                for prices in itertools.product([0, 1, 3], repeat=len(program[1][function][1])):
                    self.assert_placement(program, function, unit, list(prices))

    def test_two_walks_that_share_their_middle(self):
        # Both ways lead through place 4, and from there to places 6 and 7.
        code = [("branch", 3), ("show", 0), ("branch", 4), ("show", 0), ("show", 0), ("branch", 7), ("read", 0, 1, 0),
                ("write", 1, 0, 0)]
        program = one_function([FIRST, ONE], *code)
        self.assertEqual(self.assert_placement(program, 0, 1, [9, 9, 9, 9, 5, 9, 3, 3]), (5, [4]))
        self.assertEqual(self.assert_placement(program, 0, 1, [9, 9, 9, 9, 7, 9, 3, 3]), (6, [6, 7]))
        code[6] = ("fail",)
        program = one_function([FIRST, ONE], *code)
        self.assertEqual(self.assert_placement(program, 0, 1, [9, 2, 9, 2, 5, 9, 3, 3]), (3, [7]))

    def test_a_flow_that_has_to_be_turned_back(self):
        # The shortest walk, over place 3 to place 7, must give way to one over place 3 to 6 and one over place 2 to 7.
        code = [("branch", 3), ("show", 0), ("branch", 7), ("branch", 7), ("show", 0), ("show", 0), ("read", 0, 1, 0),
                ("write", 1, 0, 0)]
        program = one_function([FIRST, ONE], *code)
        self.assertEqual(self.assert_placement(program, 0, 1, [2, 1, 1, 1, 1, 1, 1, 1])[0], 2)
        for prices in itertools.product([1, 2], repeat=6):
            self.assert_placement(program, 0, 1, [4, *prices[:4], 1, *prices[4:]])

    def test_ways_on(self):
        fails = one_function([FIRST, ONE], ("branch", 2), ("fail",), ("fail",), ("read", 0, 1, 0))
        self.assertEqual(placement(fails, 0, 1, [1, 1, 1, 1]), (0, [], []))
        self.assertIs(is_placement(fails, 0, 1, []), True)
        ends = one_function([FIRST, ONE], ("branch", 3), ("branch", 2), ("show", 0))
        self.assertEqual(placement(ends, 0, 1, [1, 1, 1]), (0, [], []))
        back = one_function([FIRST, ONE], ("show", 0), ("branch", 0), ("branch", 1), ("read", 0, 1, 0))
        self.assertEqual(self.assert_placement(back, 0, 1, [4, 3, 2, 3]), (2, [2]))
        passed = ((FIRST, ONE), ((0, (("call", 1), ("read", 0, 1, 0))), (1, (("fail",),))))
        self.assertEqual(self.assert_placement(passed, 0, 1, [9, 8])[0], 9)
        self.assertEqual(self.assert_placement(passed, 0, 0, [9, 8]), (0, []))

    def test_wakes(self):
        # Behind its own "wake" walks go on at k alone, behind that of another unit at both.
        for unit, price in [(1, 0), (0, 1)]:
            program = one_function([FIRST, ONE], ("wake", unit, 2), ("read", 0, 1, 0), ("show", 0))
            self.assertEqual(self.assert_placement(program, 0, 1, [1, 1, 1])[0], price)
        program = one_function([FIRST, ONE], ("wake", 1, 2), ("read", 0, 1, 0), ("read", 0, 1, 0))
        self.assertEqual(self.assert_placement(program, 0, 1, [2, 9, 9]), (2, [0]))
        self.assertEqual(self.assert_placement(program, 0, 1, [9, 9, 1]), (1, [2]))
        self.assertIs(is_placement(program, 0, 1, [1]), False)
        program = one_function([FIRST, ONE], ("wake", 0, 2), ("read", 0, 1, 0), ("write", 1, 0, 0))
        self.assertEqual(self.assert_placement(program, 0, 1, [9, 1, 1]), (2, [1, 2]))

    def test_accesses_of_the_unit(self):
        program = ((FIRST, ONE, (None, 1, ())),
                   ((0, (("branch", 2), ("call", 1), ("branch", 4), ("write", 1, 0, 0), ("read", 0, 2, 0))), (1, (("show", 0),))))
        self.assertEqual(self.assert_placement(program, 0, 1, [9, 1, 9, 2, 1]), (3, [1, 3]))
        self.assertEqual(self.assert_placement(program, 0, 2, [9, 1, 9, 2, 1]), (1, [4]))
        self.assertEqual(placement(program, 0, 0, [1] * 5), (0, [], []))
        self.assertEqual(placement(program, 1, 1, [1]), (0, [], []))

    def test_the_first_place_is_an_access(self):
        program = one_function([FIRST, ONE], ("read", 0, 1, 0), ("branch", 0))
        self.assertEqual(self.assert_placement(program, 0, 1, [7, 1]), (7, [0]))
        self.assertEqual(placement(program, 0, 1, [7, 1])[2], [([0], 7)])
        self.assertEqual(placement(program, 0, 1, [0, 1])[2], [])

    def test_code_that_no_walk_comes_to(self):
        program = one_function([FIRST, ONE], ("branch", 2), ("fail",), ("fail",), ("read", 0, 1, 0), ("branch", 3))
        for prices in [[1] * 5, [0] * 5, [65535] * 5]:
            self.assertEqual(self.assert_placement(program, 0, 1, prices)[0], 0)


class IsPlacement(unittest.TestCase):
    def test_all_sets_of_places(self):
        for seed in range(60):
            program = drawn_program("is placement", seed, most_units=3)
            for function, unit in parts(program):
                right = all_placements(program, function, unit)
                places = range(len(program[1][function][1]))
                for many in range(len(places) + 1):
                    for chosen in itertools.combinations(places, many):
                        self.assertIs(is_placement(program, function, unit, list(chosen)), list(chosen) in right)

    def test_nearly_right(self):
        for thing, expected in [
            ([0], True), ([1, 2], True), ([0, 1, 2], True), ([0, 2], True), ([1], False), ([2], False), ([], False),
            ([2, 1], False), ([0, 0], False), ([1, 1, 2], False), ([0, 3], False), ([1, 2, 3], False), ([-1, 0], False),
            ([False], False), ([True, 2], False), ([0, True], False), ((0,), False), ((1, 2), False), ([[0]], False),
            ([(0,)], False), (["0"], False), ([None], False), ([0, None], False), ({0: 0}, False), ([10 ** 20], False),
            ([0, -10 ** 20], False), ([1, 2, 2], False), ([0] * 2000, False), (list(range(2000)), False),
        ]:
            with self.subTest(thing=thing):
                self.assertIs(is_placement(PLACED, 0, 1, thing), expected)

    def test_other_kinds(self):
        for thing in OTHER_KINDS:
            self.assertIs(is_placement(PLACED, 0, 1, thing), thing == [0])
            self.assertIs(is_placement(PLACED, 0, 0, thing), thing == [0] or thing == [])

    def test_what_placement_returns(self):
        found = placement(PLACED, 0, 1, [5, 1, 1])
        for thing in [found, found[2], list(found)]:
            self.assertIs(is_placement(PLACED, 0, 1, thing), False)


class AreWalks(unittest.TestCase):
    PRICES = [5, 1, 2]

    def assert_walks(self, thing, expected, program=PLACED, prices=None):
        with self.subTest(thing=thing):
            self.assertIs(are_walks(program, 0, 1, prices or self.PRICES, thing), expected)

    def test_whatever_their_sum(self):
        one, two, both = [0, 1], [0, 2], [0, 1, 2]
        for thing, expected in [
            ([], True), ([(one, 1)], True), ([(two, 1)], True), ([(two, 2)], True), ([(one, 1), (two, 2)], True),
            ([(both, 1)], True), ([(both, 1), (two, 1)], True), ([(two, 1), (two, 1)], True), ([(two, 1), (both, 1)], True),
            ([(one, 2)], False), ([(two, 3)], False), ([(one, 1), (both, 1)], False), ([(two, 1)] * 3, False),
            ([(one, 1), (one, 1)], False), ([(both, 1), (two, 2)], False), ([(one, 1)] * 2000, False),
        ]:
            self.assert_walks(thing, expected)

    def test_prices_of_the_first_place(self):
        self.assert_walks([([0, 1], 1), ([0, 2], 2)], False, prices=[2, 1, 2])
        self.assert_walks([([0, 1], 1), ([0, 2], 1)], True, prices=[2, 1, 2])
        self.assert_walks([([0, 1], 1)], False, prices=[0, 1, 2])
        self.assert_walks([], True, prices=[0, 0, 0])

    def test_no_walks(self):
        for walk in [[], [0], [1], [2], [1, 2], [0, 0, 1], [0, 1, 1], [0, 2, 1], [0, 1, 2, 3], [0, 3], [0, 2, 2], [0, -1],
                     [0, 2, 3], (0, 1), (0, 2), "01", None, 0, {0: 0, 1: 1}, [0, None], [0, "1"], [0, [1]], [0, (1,)],
                     [False, 1], [0, True], [False, True], [0, True, 2], [0, 10 ** 20], [[0, 1]]]:
            self.assert_walks([(walk, 1)], False)
            self.assert_walks([([0, 2], 1), (walk, 1)], False)

    def test_no_numbers(self):
        for number in [0, -1, True, False, None, "1", [1], (1,), 10 ** 20, 65536, {}]:
            self.assert_walks([([0, 1], number)], False)

    def test_no_pairs(self):
        for pair in [[[0, 1], 1], ([0, 1],), ([0, 1], 1, 1), (1, [0, 1]), (), None, 0, "", [0, 1], {0: [0, 1], 1: 1}]:
            self.assert_walks([pair], False)
        for thing in [*OTHER_KINDS, (([0, 1], 1),), ([0, 1], 1), {0: ([0, 1], 1)}, placement(PLACED, 0, 1, [5, 1, 2])]:
            self.assert_walks(thing, thing == [])

    def test_booleans_lists_and_tuples_in_walks(self):
        right = [([0, 1], 1), ([0, 2], 1), ([0, 2], 1)]
        self.assert_walks(right, True)
        for path, part in nodes(right):
            for other in [True, False, None, [], (), "", -1, 3, tuple(part) if isinstance(part, list) else
                          list(part) if isinstance(part, tuple) else 10 ** 20]:
                self.assert_walks(replaced(right, path, other), other == [] and path == ())

    def test_a_walk_that_comes_to_a_place_several_times_is_counted_once(self):
        program = one_function([FIRST, ONE], ("show", 0), ("branch", 0), ("read", 0, 1, 0), ("branch", 0))
        for walk in [[0, 1, 2], [0, 1, 0, 1, 2], [0, 1, 2, 3, 0, 1, 2], [0, 1] * 900 + [2]]:
            self.assertIs(are_walks(program, 0, 1, [2, 2, 2, 9], [(walk, 2)]), True)
            self.assertIs(are_walks(program, 0, 1, [2, 2, 2, 9], [(walk, 3)]), False)
            self.assertIs(are_walks(program, 0, 1, [2, 2, 2, 9], [(walk, 1), ([0, 1, 2], 1)]), True)
            self.assertIs(are_walks(program, 0, 1, [2, 2, 2, 9], [(walk, 2), ([0, 1, 2], 1)]), False)
        self.assertIs(are_walks(program, 0, 1, [2, 2, 2, 0], [([0, 1, 2, 3, 0, 1, 2], 1)]), False)

    def test_walks_do_not_go_on_where_the_code_does_not(self):
        program = one_function([FIRST, ONE], ("wake", 1, 2), ("fail",), ("wake", 0, 4), ("read", 0, 1, 0), ("read", 0, 1, 0))
        for walk, expected in [([0, 2, 3], True), ([0, 2, 4], True), ([0, 2, 3, 4], True), ([0, 1, 2, 3], False),
                               ([0, 1, 2, 4], False), ([0, 3], False), ([0, 2], False)]:
            self.assertIs(are_walks(program, 0, 1, [9] * 5, [(walk, 9)]), expected)


class Placed(unittest.TestCase):
    PROGRAM = ((FIRST, ONE), (
        (0, (("call", 1), ("wake", 1, 3), ("read", 0, 1, 0), ("write", 1, 0, 0), ("show", 0))), (1, (("read", 0, 1, 0),))))

    def test_plans(self):
        body = ("function", 0)
        self.assertEqual(placed(self.PROGRAM, 0, 1, [0, 3, 4]), (
            [], [(body, 0), (body, 2), (body, 3)], [(0, 0, 1), (0, 3, 1), (0, 4, 1)]))
        self.assertEqual(placed(self.PROGRAM, 0, 1, []), ([], [(body, 0), (body, 2), (body, 3)], []))
        self.assertEqual(placed(self.PROGRAM, 0, 0, [1]), ([], [], [(0, 1, 0)]))
        self.assertEqual(placed(self.PROGRAM, 1, 1, [0]), ([], [(("function", 1), 0)], [(1, 0, 1)]))

    def test_they_are_plans(self):
        for function, unit in parts(self.PROGRAM):
            many = len(self.PROGRAM[1][function][1])
            for count in range(many + 1):
                for places in itertools.combinations(range(many), count):
                    self.assertIs(is_plan(self.PROGRAM, placed(self.PROGRAM, function, unit, list(places))), True)

    def test_no_places(self):
        for places in [[5], [-1], [0, 0], [1, 0], [0, 5], [True], [0, True], [False], [None], ["0"], [[0]], [(0,)], (0,),
                       (), {}, {0: 0}, None, 0, "", "0", [0, 1, 2, 3, 4, 5], [10 ** 20], True]:
            with self.subTest(places=places), self.assertRaises(NoPlaces):
                placed(self.PROGRAM, 0, 1, places)


class Errors(unittest.TestCase):
    CALLS = [
        (placement, lambda function, unit: (PLACED, function, unit, [1, 1, 1])),
        (is_placement, lambda function, unit: (PLACED, function, unit, [0])),
        (are_walks, lambda function, unit: (PLACED, function, unit, [1, 1, 1], [])),
        (placed, lambda function, unit: (PLACED, function, unit, [0])),
    ]

    def test_functions_and_units(self):
        for call, values in self.CALLS:
            for other in [None, True, False, "0", "", (), [], (0,), [0], {}, -1, 10 ** 20, -10 ** 20]:
                with self.subTest(call=call.__name__, other=other):
                    self.assertRaises(NoFunction, call, *values(other, 0))
                    self.assertRaises(NoFunction, call, *values(other, None))
                    self.assertRaises(NoUnit, call, *values(0, other))
            self.assertRaises(NoFunction, call, *values(1, 1))
            self.assertRaises(NoUnit, call, *values(0, 2))

    def test_prices(self):
        for prices in [None, True, 0, "", "111", (), (1, 1, 1), {}, {0: 1, 1: 1, 2: 1}, [], [1], [1, 1], [1, 1, 1, 1],
                       [1, 1, True], [False, 1, 1], [1, -1, 1], [1, 65536, 1], [1, None, 1], [1, "1", 1], [1, [1], 1],
                       [1, (1,), 1], [10 ** 20, 1, 1], [[1, 1, 1]]]:
            with self.subTest(prices=prices):
                self.assertRaises(NoPrices, placement, PLACED, 0, 1, prices)
                self.assertRaises(NoPrices, are_walks, PLACED, 0, 1, prices, [])
                self.assertRaises(NoPrices, are_walks, PLACED, 0, 1, prices, None)
                self.assertRaises(NoUnit, placement, PLACED, 0, 2, prices)
                self.assertRaises(NoFunction, placement, PLACED, 1, 2, prices)
        self.assertRaises(NoUnit, placed, PLACED, 0, 2, None)
        self.assertRaises(NoFunction, placed, PLACED, 1, 2, None)


if __name__ == "__main__":
    unittest.main()
