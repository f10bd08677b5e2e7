"""What callers find, spared checks, half accesses, cycles and guards, compared with searches of their own."""

import itertools
import random
import unittest

from firstwake.callers import caller_state
from firstwake.errors import TooMany
from firstwake.guards import caller_finds, cycle_schedule, find_schedule, guard, half, shows_no_half, spared
from firstwake.programs import accesses
from tests import thread_oracle as oracle
from tests.drawn import drawn_locking, drawn_program
from tests.samples import EXAMPLES, FIRST, LOCKED, OTHER_KINDS, SHOW, nested_calls, nodes, one_function, replaced
from tests.test_callers import drawn_callers, drawn_unchecked, word

WORDS = ["asleep", "awake", "broken", "self", "other"]
NEEDING = {"asleep", "broken", "other"}
EMPTY = (None, 0, ())
HOLDS_7 = (None, 1, (("number", 0, 7), ("write", 1, 0, 0)))
FAILS = (None, 1, (("fail",),))


class Case:
    """Callers of a program after units ahead: all states, what is found in them, cycles and half accesses."""

    def __init__(self, program, callers, ahead, unchecked=(), most=600):
        self.parts = program, callers, list(ahead)
        self.first = oracle.first_state(*self.parts)
        self.states = None
        if self.first != "failed":
            self.states = oracle.reached(*self.parts, unchecked, most)
        self.unchecked = unchecked

    def crew(self, state):
        return oracle.Crew(self.parts[0], self.parts[1], state, self.unchecked)

    def after(self, schedule):
        return self.crew(oracle.after(*self.parts, schedule, self.unchecked))

    def found(self):
        """Return a dict from each (body, place, word) to the least number of moves to a state in which it is found."""
        least = {}
        for state, many in self.states.items():
            for _, *find in self.crew(state).finds():
                least[tuple(find)] = min(many, least.get(tuple(find), many))
        return least

    def cycles(self):
        return [many for state, many in self.states.items() if self.crew(state).cycle()]

    def halves(self):
        return [many for state, many in self.states.items() if self.is_half(self.crew(state), self.unchecked)]

    @staticmethod
    def is_half(crew, spots):
        return any((body, place) in spots and found in NEEDING for _, body, place, found in crew.finds())


def checked(program):
    return [access for access in accesses(program) if word(program, *access) != "wake"]


class Compared(unittest.TestCase):
    def compare_finds(self, case):
        """Compare what accesses find, and the schedules to it and to a cycle; return the words found."""
        expected = case.found()
        told = {}
        for body, place, found in sorted(expected):
            told.setdefault((body, place), []).append(found)
        self.assertEqual(caller_finds(*case.parts), {access: tuple(found) for access, found in told.items()})
        self.assertEqual(spared(*case.parts), [
            access for access in checked(case.parts[0]) if not NEEDING & set(told.get(access, []))])
        for body, place in accesses(case.parts[0]):
            for one in WORDS:
                schedule = find_schedule(*case.parts, body, place, one)
                if (body, place, one) not in expected:
                    self.assertIsNone(schedule)
                else:
                    self.assertEqual(len(schedule), expected[body, place, one])
                    self.assertIn((body, place, one), [tuple(find) for _, *find in case.after(schedule).finds()])
        schedule, cycles = cycle_schedule(*case.parts), case.cycles()
        if cycles:
            self.assertEqual(len(schedule), min(cycles))
            self.assertGreater(len(case.after(schedule).cycle()), 1)
        else:
            self.assertIsNone(schedule)
        return {found for _, _, found in expected} | ({"cycle"} if cycles else set())

    def compare_half(self, case):
        expected, found = case.halves(), half(*case.parts, list(case.unchecked))
        if expected:
            self.assertEqual((found[0], len(found[1])), ("half", min(expected)))
            self.assertTrue(case.is_half(case.after(found[1]), case.unchecked))
            self.assertIs(shows_no_half(*case.parts, list(case.unchecked), case.states), False)
        else:
            self.assertEqual(found, ("never", case.states))
            self.assertIs(shows_no_half(*case.parts, list(case.unchecked), case.states), True)
        return found[0]

    def compare_failed(self, case):
        body, place = (accesses(case.parts[0]) + [(None, None)])[0]
        self.assertEqual([caller_finds(*case.parts), spared(*case.parts), cycle_schedule(*case.parts), half(*case.parts, [])],
                         ["failed"] * 4)
        if body is not None:
            self.assertEqual(find_schedule(*case.parts, body, place, "self"), "failed")
        for thing in [{}, "failed", None]:
            self.assertIs(shows_no_half(*case.parts, [], thing), False)


class Drawn(Compared):
    def test_callers_of_each_kind(self):
        told = {}
        for seed in range(260):
            program = (drawn_locking if seed % 4 else drawn_program)("guards", seed, most_units=3, most_functions=2)
            dice = random.Random(repr(("guards", seed)))
            callers, unchecked = drawn_callers(program, dice), drawn_unchecked(program, dice)
            ahead = dice.sample(range(len(program[0])), dice.choice([0, 0, 0, 1]))
            case = Case(program, callers, ahead)
            with self.subTest(program=program, callers=callers, ahead=ahead, unchecked=unchecked):
                if case.first == "failed":
                    self.compare_failed(case)
                    told["failed"] = told.get("failed", 0) + 1
                elif case.states is not None:
                    free = Case(program, callers, ahead, unchecked)
                    kinds = {"mixed" if len(set(map(type, callers))) > 1 else "open" if "open" in callers else "numbers"}
                    kinds |= self.compare_finds(case) | {len(callers)}
                    if free.states is not None:
                        kinds.add(self.compare_half(free))
                    for kind in kinds:
                        told[kind] = told.get(kind, 0) + 1
        for kind in [*WORDS, "cycle", "half", "never", "failed", "mixed", "open", "numbers", 1, 2, 3]:
            self.assertGreater(told.get(kind, 0), 2, (kind, told))

    def test_examples(self):
        for program in EXAMPLES:
            for callers in [(0,), ("open",), (0, "open")]:
                case = Case(program, callers, [])
                if case.states is not None:
                    self.compare_finds(case)
                    for unchecked in [[], checked(program), checked(program)[:1], checked(program)[1:]]:
                        self.compare_half(Case(program, callers, [], unchecked))


class Finds(Compared):
    def test_all_five_words(self):
        program = ((FIRST, (None, 1, (("write", 1, 0, 0),)), FAILS), ((0, (("read", 0, 1, 0), ("wake", 2, 2), ("wake", 2, 3))),))
        case = Case(program, (0, 0), [])
        self.compare_finds(case)
        self.assertEqual(caller_finds(*case.parts), {
            (("function", 0), 0): ("asleep", "awake", "other"), (("function", 0), 1): ("asleep", "broken", "other"),
            (("function", 0), 2): ("broken",), (("unit", 1), 0): ("self",),
        })
        self.assertEqual(spared(*case.parts), [(("unit", 1), 0)])

    def test_an_access_at_which_no_thread_stands_is_spared(self):
        program = ((FIRST, HOLDS_7), ((0, (("fail",), ("read", 0, 1, 0))), (1, (("read", 0, 1, 0),))))
        self.assertEqual(spared(program, (0,), []), [(("function", 0), 1), (("function", 1), 0), (("unit", 1), 1)])
        self.assertEqual(caller_finds(program, (0,), []), {})
        self.assertEqual(spared(program, (0, "open"), []), [(("function", 0), 1), (("function", 1), 0), (("unit", 1), 1)])
        self.assertEqual(caller_finds(program, (0, "open"), []), {(("function", 1), 0): ("awake",), (("unit", 1), 1): ("self",)})

    def test_a_second_call_finds_more(self):
        program = one_function([FIRST, HOLDS_7], ("read", 0, 1, 0))
        access = ("function", 0), 0
        self.assertEqual([caller_finds(program, callers, [])[access] for callers in [(0,), ("open",), (0, 0)]],
                         [("asleep", "awake"), ("asleep", "awake"), ("asleep", "awake", "other")])
        self.assertEqual(len(find_schedule(program, ("open",), [], *access, "asleep")), 4)
        self.assertEqual(find_schedule(program, (0, 0), [0], *access, "other"), [(0, 0), (0, 0), (1, 0)])
        self.assertEqual(find_schedule(program, ("open", "open"), [0], *access, "other"),
                         [(0, 0), (0, 0), (0, 0), (1, 0), (1, 0)])

    def test_cycles_of_parents_and_of_first_accesses(self):
        # Unit 1 has the parent 0, which uses unit 1: each thread holds one of them.
        program = (((None, 1, (("read", 0, 1, 0),)), (0, 1, ())), ((0, (SHOW,)), (1, (SHOW,))))
        case = Case(program, (0, 1), [])
        self.assertIn("cycle", self.compare_finds(case))
        self.assertEqual(cycle_schedule(*case.parts), [(0, 0), (1, 0)])
        self.assertEqual(cycle_schedule(program, ("open", "open"), []), [(0, 0), (0, 0), (1, 1), (1, 0)])
        ring = ((FIRST, (None, 1, (("read", 0, 2, 0),)), (None, 1, (("read", 0, 3, 0),)), (None, 1, (("read", 0, 1, 0),))),
                ((1, (SHOW,)), (2, (SHOW,)), (3, (SHOW,))))
        self.assertEqual(len(cycle_schedule(ring, (0, 1, 2), [])), 3)
        self.assertEqual(len(cycle_schedule(ring, (0, 1), [])), 3)

    def test_a_cycle_is_no_deadlock_where_others_move(self):
        program = (LOCKED[0], LOCKED[1] + ((0, (("branch", 0),)),))
        case = Case(program, (0, 1, "open"), [0])
        self.assertIn("cycle", self.compare_finds(case))


class Half(Compared):
    STATES = one_function([FIRST, (None, 1, (("write", 1, 0, 0),))], ("read", 0, 1, 0), ("write", 1, 0, 0))

    def test_in_each_status(self):
        program = ((FIRST, HOLDS_7, FAILS), ((0, (("read", 0, 1, 0), ("wake", 2, 2), ("read", 0, 2, 0))), (1, (SHOW,))))
        spots = [(("function", 0), 0), (("function", 0), 2), (("unit", 1), 1)]
        for callers, ahead, unchecked, answer in [
            ((0,), [], spots[:1], "half"), ((0,), [1], spots[:1], "never"), ((0,), [], spots[1:2], "half"), ((0,), [], spots[2:], "never"),
            ((0, 1), [], spots[:1], "half"), ((0, 0), [], spots[2:], "never"), ((0, "open"), [1], spots[:1], "never"),
            ((1, 1), [], spots, "never"), (("open",), [1], spots[::2], "never"), ((0,), [], [], "never"), ((0,), [2], spots, "f"),
        ]:
            case = Case(program, callers, ahead, unchecked)
            if answer == "f":
                self.compare_failed(case)
            else:
                self.assertEqual(self.compare_half(case), answer)

    def test_only_while_another_thread_holds_it(self):
        program = ((FIRST, HOLDS_7), ((0, (("wake", 1, 1), ("read", 0, 1, 0))), (1, (SHOW,))))
        unchecked = [(("function", 0), 1)]
        self.assertEqual(self.compare_half(Case(program, (0, 1), [], unchecked)), "never")
        program = ((FIRST, HOLDS_7), ((0, (("read", 0, 1, 0),)), (1, (SHOW,))))
        self.assertEqual(half(program, (0, 1), [], [(("function", 0), 0)])[0], "half")
        self.assertEqual(len(half(program, (0, 1), [0], [(("function", 0), 0)])[1]), 1)

    def test_steps_are_without_the_checks(self):
        # Behind the unchecked access of unit 1, which is its own, nothing is asleep any more; one that is not checked wakes nothing.
        units = [FIRST, (None, 1, ()), (None, 1, ())]
        program = one_function(units, ("read", 0, 1, 0), ("wake", 2, 2))
        case = Case(program, (0,), [1], [(("function", 0), 0)])
        self.assertEqual(self.compare_half(case), "never")
        states = half(*case.parts, case.unchecked)[1]
        self.assertEqual({statuses[1] for statuses, _ in states}, {"awake"})

    def test_the_table_with_cycles(self):
        case = Case(LOCKED, (0, 1), [])
        self.assertEqual(self.compare_half(case), "never")
        self.assertTrue(case.cycles())

    def assert_none(self, thing):
        with self.subTest(thing=thing):
            self.assertIs(shows_no_half(self.STATES, ("open", 0), [1], [(("function", 0), 0)], thing), False)

    def test_things(self):
        parts = self.STATES, ("open", 0), [1], [(("function", 0), 0)]
        answer, states = half(*parts)
        self.assertEqual((answer, len(states) > 20), ("never", True))
        self.assertIs(shows_no_half(*parts, dict(reversed(states.items()))), True)
        for state, many in states.items():
            rest = {one: least for one, least in states.items() if one != state}
            self.assert_none(rest)
            for other in [many + 1, many - 1, None, str(many), [many], bool(many), True, False]:
                if (type(other), other) != (int, many):
                    self.assert_none({**states, state: other})
            for path, part in nodes(state):
                for other in [None, True, False, 0, 1, 5, -1, "", "held 1", "asleep", "broken", (), (("open", 0), 0), ("call", 0)]:
                    changed = replaced(state, path, other)
                    if changed not in rest and (type(part), part) != (type(other), other):
                        self.assert_none({**rest, changed: many})
        pairs = [pair for pair in itertools.combinations(states, 2) if states[pair[0]] != states[pair[1]]]
        for one, other in random.Random(2).sample(pairs, 20):
            self.assert_none({**states, one: states[other], other: states[one]})
        for thing in [*OTHER_KINDS, list(states), ("never", states), half(*parts[:3], [])[1], {**states, (): 0}]:
            if thing != states:
                self.assert_none(thing)

    def test_a_half_access_has_no_table(self):
        unchecked = [(("function", 0), 0)]
        whole = Case(self.STATES, (0,), [], unchecked).states
        many = len(half(self.STATES, (0,), [], unchecked)[1])
        parts = [{state: least for state, least in whole.items() if least <= most} for most in range(many + 3)]
        for thing in [{}, half(self.STATES, (0,), [], [])[1], whole, *parts]:
            self.assertIs(shows_no_half(self.STATES, (0,), [], unchecked, thing), False)


class Guard(unittest.TestCase):
    def bar(self, program, callers, units, spots):
        """Return what bars the units, with the least number of moves, "free", or "many" if there are too many states."""
        case = Case(program, callers, units, most=1500)
        if case.first == "failed":
            return None
        if case.states is None:
            return "many"
        found = [many for state, many in case.states.items() if case.is_half(case.crew(state), spots)]
        if found:
            return "found", min(found)
        return ("cycle", min(case.cycles())) if case.cycles() else "free"

    def compare(self, program, callers, spots, prices):
        expected, free = {}, (None, None)
        subsets = [units for size in range(len(prices) + 1) for units in itertools.combinations(range(len(prices)), size)]
        for price, units in sorted((sum(prices[unit] for unit in units), units) for units in subsets):
            bar = self.bar(program, callers, units, spots)
            if bar == "many":
                return None
            if bar == "free":
                free = price, units
                break
            expected[units] = bar
        price, units, bars = guard(program, callers, spots, prices)
        with self.subTest(program=program, callers=callers, spots=spots, prices=prices):
            self.assertEqual((price, units), free)
            self.assertEqual({key: bar if bar is None else (bar[0], len(bar[1])) for key, bar in bars.items()}, expected)
            for key, bar in bars.items():
                if bar is not None:
                    case = Case(program, callers, key)
                    crew = case.after(bar[1])
                    self.assertTrue(case.is_half(crew, spots) if bar[0] == "found" else crew.cycle())
        return units, {bar if bar is None else bar[0] for bar in bars.values()}

    def test_drawn_programs(self):
        told = {}
        for seed in range(220):
            program = drawn_locking("guarded", seed, most_units=3, most_functions=2)
            dice = random.Random(repr(("guarded", seed)))
            callers = drawn_callers(program, dice, 2)
            prices = tuple(dice.choice([0, 1, 1, 2, 65535]) for _ in program[0])
            found = self.compare(program, callers, drawn_unchecked(program, dice)[:2], prices)
            if found is not None:
                for kind in [None if found[0] is None else len(found[0]), *map(str, found[1])]:
                    told[kind] = told.get(kind, 0) + 1
        for kind in [None, 0, 1, 2, "None", "found", "cycle"]:
            self.assertGreater(told.get(kind, 0), 2, (kind, told))

    def test_the_example(self):
        price, units, bars = guard(LOCKED, (0, 1), [(("unit", 2), 0)], (0, 1, 5))
        self.assertEqual((price, units, sorted(bars), [len(bars[key][1]) for key in sorted(bars)]), (1, (0, 1), [(), (0,)], [4, 2]))
        self.assertEqual({bar[0] for bar in bars.values()}, {"found"})

    def test_no_accesses(self):
        self.assertEqual(self.compare(LOCKED, (0, 1), [], (1, 1, 1)), ((1,), {"cycle"}))
        self.assertEqual(self.compare(LOCKED, (0, 0), [], (1, 1, 1)), ((), set()))
        self.assertEqual(guard(LOCKED, (0,), [], (0, 0, 0)), (0, (), {}))

    def test_what_is_found_comes_before_a_cycle(self):
        # A cycle is come to by fewer moves than the access.
        program = (LOCKED[0] + ((None, 1, ()),), tuple((0, code + (SHOW, SHOW, ("read", 0, 3, 0))) for _, code in LOCKED[1]))
        units, kinds = self.compare(program, (0, 1), [(("function", 0), 3)], (9, 9, 9, 1))
        self.assertEqual(kinds, {"found", "cycle"})
        price, units, bars = guard(program, (0, 1), [(("function", 0), 3)], (9, 9, 9, 1))
        self.assertEqual((bars[()][0], bars[(3,)][0]), ("found", "cycle"))
        self.assertLess(len(cycle_schedule(program, (0, 1), [])), len(bars[()][1]))

    def test_no_tuple_that_serves(self):
        program = ((FIRST, FAILS), ((0, (("wake", 1, 1), ("read", 0, 1, 0))),))
        price, units, bars = guard(program, ("open",), [(("function", 0), 1)], (1, 1))
        self.assertEqual((price, units, sorted(bars)), (None, None, [(), (0,), (0, 1), (1,)]))
        self.assertEqual([bars[key] is None for key in sorted(bars)], [False, False, True, True])
        self.assertEqual(self.compare(program, ("open",), [(("function", 0), 1)], (1, 1)), (None, {None, "found"}))

    def test_prices(self):
        for prices in [(0, 1, 5), (5, 1, 0), (0, 0, 0), (1, 1, 1), (65535, 65535, 65535), (0, 65535, 1), (3, 2, 1)]:
            for callers in [(0, 1), ("open",), ("open", 0)]:
                self.compare(LOCKED, callers, [(("function", 1), 0)], prices)

    def test_a_guard_for_open_threads_serves_all(self):
        for spots in [[], [(("function", 0), 0)], checked(LOCKED)]:
            price, units, _ = guard(LOCKED, ("open", "open"), spots, (1, 1, 1))
            for callers in itertools.product([0, 1, "open"], repeat=2):
                found = guard(LOCKED, callers, spots, (1, 1, 1))
                self.assertLessEqual(found[0], price)
                self.assertLessEqual(set(spots), set(spared(LOCKED, callers, list(units))))
                self.assertIsNone(cycle_schedule(LOCKED, callers, list(units)))


class Bounds(unittest.TestCase):
    # One thread goes straight on through 2000 states, and through 2001.
    FEW = nested_calls([(("call", 1), 7)], [(("call", 2), 6), (("call", 3), 1)], [(("call", 3), 6), (SHOW, 2)], [(SHOW, 5)])
    MANY = nested_calls([(("call", 1), 6), (("call", 2), 1), (("call", 3), 1)], [(("call", 2), 7), (("call", 3), 1)],
                        [(("call", 3), 6), (SHOW, 1)], [(SHOW, 5)])

    def test_just_two_thousand(self):
        answer, states = half(self.FEW, (0,), [], [])
        self.assertEqual((answer, len(states)), ("never", 2000))
        self.assertIs(shows_no_half(self.FEW, (0,), [], [], states), True)
        self.assertEqual(spared(self.FEW, (0,), [])[0], (("function", 0), 0))
        self.assertEqual(guard(self.FEW, (0,), [], (0,)), (0, (), {}))
        self.assertIsNone(cycle_schedule(self.FEW, (0,), []))

    def test_one_more(self):
        parts = self.MANY, (0,), []
        for call in [caller_finds, spared, cycle_schedule]:
            self.assertRaises(TooMany, call, *parts)
        self.assertRaises(TooMany, half, *parts, [])
        self.assertRaises(TooMany, guard, self.MANY, (0,), [], (0,))
        self.assertRaises(TooMany, find_schedule, *parts, ("function", 0), 0, "other")
        for thing in [{}, None, half(self.FEW, (0,), [], [])[1]]:
            self.assertRaises(TooMany, shows_no_half, *parts, [], thing)

    def with_half_behind(self, more):
        """Return parts of a call of half: straight on through 1990 states and some more, then there is a half access."""
        units = (FIRST, (None, 1, ()))
        first = (("call", 1),) * 7 + (("read", 0, 1, 0),)
        second = (("call", 2),) * 6 + (("call", 3),)
        third = (("call", 3),) * 6 + (SHOW,) * more
        return (units, ((0, first), (0, second), (0, third), (0, (SHOW,) * 5))), (0,), [], [(("function", 0), 7)]

    def test_a_half_access_before_and_behind_the_bound(self):
        for more in (0, 1, 2):
            parts = self.with_half_behind(more)
            whole = len(oracle.reached(*parts[:3], parts[3], most=5000))
            # Behind the access there are its own end and the thread's.
            before = whole - 3
            if before <= 2000:
                answer, schedule = half(*parts)
                self.assertEqual((answer, len(schedule)), ("half", before))
                self.assertIs(shows_no_half(*parts, {}), False)
            else:
                self.assertRaises(TooMany, half, *parts)
                self.assertRaises(TooMany, shows_no_half, *parts, {})

    def test_exactly_at_the_bound(self):
        told = set()
        for shows, tail in itertools.product(range(8), range(5)):
            units = (FIRST, (None, 1, ()))
            first = (("call", 1),) * 6 + (("call", 3), ("read", 0, 1, 0))
            third = (("call", 3),) * 5 + (("call", 3),) * (tail > 3) + (SHOW,) * min(tail, 2)
            second = (("call", 2),) * 7 + (SHOW,)
            program = (units, ((0, first), (0, second), (0, third), (0, (SHOW,) * max(shows, 1))))
            parts = program, (0,), [], [(("function", 0), 7)]
            before = len(oracle.reached(*parts[:3], parts[3], most=9000)) - 3
            told.add((before > 2000, abs(before - 2000) < 120))
            if before > 2000:
                self.assertRaises(TooMany, half, *parts)
            else:
                self.assertEqual(len(half(*parts)[1]), before)
        self.assertLessEqual({(True, True), (False, True)}, told)

    def test_a_half_access_with_as_few_moves_as_the_2001st_state(self):
        # States of several threads have one number of moves: all of these are looked through before they are too many.
        told = {}
        around = (0, (("branch", 5), ("branch", 6), ("branch", 7), ("branch", 3), ("branch", 0), ("branch", 1), ("branch", 2), ("branch", 4)))
        for callers, many in [((0, "open", "open"), range(5, 10)), ((0, "open", 1), range(9, 14))]:
            for shows in many:
                code = (SHOW,) * shows + (("read", 0, 1, 0),)
                if shows > 7:
                    code = (("call", 3),) + (SHOW,) * 6 + (("read", 0, 1, 0),)
                last = 0, (SHOW,) * max(shows - 8, 1)
                program = ((FIRST, (None, 1, ())), ((0, code), around, around, last))
                found = self.check_levels(program, callers, [0], [(("function", 0), len(code) - 1)])
                told[found] = told.get(found, 0) + 1
        self.assertEqual(set(told), {"before", "at", "behind"})

    def check_levels(self, program, callers, ahead, unchecked):
        """Compare half with a search by numbers of moves; tell where the access is half, seen from the 2001st state."""
        level = [caller_state(program, callers, ahead)]
        seen = set(level)
        moves = 0
        while True:
            if any(Case.is_half(oracle.Crew(program, callers, state, unchecked), unchecked) for state in level):
                self.assertEqual((half(program, callers, ahead, unchecked)[0], len(half(program, callers, ahead, unchecked)[1])),
                                 ("half", moves))
                self.assertIs(shows_no_half(program, callers, ahead, unchecked, {}), False)
                return "before" if len(seen) <= 2000 else "at"
            if len(seen) > 2000:
                self.assertRaises(TooMany, half, program, callers, ahead, unchecked)
                self.assertRaises(TooMany, shows_no_half, program, callers, ahead, unchecked, {})
                return "behind"
            fresh = {after for state in level for _, after in oracle.moves(program, callers, state, unchecked)} - seen
            seen |= fresh
            level = sorted(fresh)
            moves += 1

    def test_a_schedule_before_the_bound(self):
        program = (self.MANY[0] + ((None, 1, ()),), ((0, (("read", 0, 1, 0),) + self.MANY[1][0][1][1:]),) + self.MANY[1][1:])
        self.assertEqual(half(program, (0, 0), [], [(("function", 0), 0)])[0], "half")
        for unchecked in [[], [(("function", 0), 1)]]:
            self.assertRaises(TooMany, half, program, (0, 0), [], unchecked)


if __name__ == "__main__":
    unittest.main()
