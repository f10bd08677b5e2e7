"""Threads, their states and moves: single rules, drawn programs against the oracle, and what has not the form of a state."""

import random
import unittest

from firstwake.errors import NoMove, NoState
from firstwake.programs import is_program
from firstwake.threads import first_state, state_after, steps
from tests import thread_oracle as oracle
from tests.drawn import drawn_locking, drawn_program
from tests.samples import FIRST, LOCKED, OTHER_KINDS, nodes, one_function, replaced

EMPTY = (None, 0, ())
HOLDS_7 = (None, 1, (("number", 0, 7), ("write", 1, 0, 0)))
FAILS = (None, 1, (("fail",),))
START = (("start", 0), 0)


def function(place, number=0):
    return ("function", number), place


def unit(number, place):
    return ("unit", number), place


def drawn_starts(program, dice):
    return tuple(dice.randrange(len(program[1])) for _ in range(dice.choice([1, 2, 2, 3])))


class Moves(unittest.TestCase):
    def walk(self, program, expected, starts=(0,), thread=0, bits=()):
        """Compare the states that one thread comes to, from the first state on, told by its frames and the statuses."""
        state = first_state(program, starts, [])
        bits = list(bits)
        found = [(state[0], state[1][thread])]
        while len(found) < len(expected):
            moves = [(bit, after) for (mover, bit), after in steps(program, starts, state) if mover == thread]
            bit = bits.pop(0) if len(moves) > 1 else 0
            state = dict(moves)[bit]
            found.append((state[0], state[1][thread]))
        self.assertEqual(found, expected)
        return [move for move in steps(program, starts, state) if move[0][0] == thread]

    def test_a_waking_step_by_step(self):
        program = one_function([FIRST, (None, 1, (("number", 0, 7), ("write", 1, 0, 0))), (1, 0, ())], ("wake", 2, 1))
        asleep, body = "asleep", (START, function(0))
        frames = (("unit", 2), -1)
        last = self.walk(program, [
            (("asleep", asleep, asleep), (START,)),
            (("held 0", asleep, asleep), (START, unit(0, 0))),
            (("awake", asleep, asleep), (START,)),
            (("awake", asleep, asleep), body),
            (("awake", asleep, "held 0"), body + (frames,)),
            (("awake", "held 0", "held 0"), body + (frames, unit(1, 0))),
            (("awake", "held 0", "held 0"), body + (frames, unit(1, 1))),
            (("awake", "held 0", "held 0"), body + (frames, unit(1, 2))),
            (("awake", "awake", "held 0"), body + (frames,)),
            (("awake", "awake", "held 0"), body + (unit(2, 0),)),
            (("awake", "awake", "awake"), body),
            (("awake", "awake", "awake"), (START, function(1))),
            (("awake", "awake", "awake"), ()),
        ])
        self.assertEqual(last, [])

    def test_calls_and_returns(self):
        program = ((FIRST, EMPTY), ((0, (("call", 1), ("show", 0))), (1, (("show", 0),))))
        self.walk(program, [
            (("asleep", "asleep"), (START,)),
            (("held 0", "asleep"), (START, unit(0, 0))),
            (("awake", "asleep"), (START,)),
            (("awake", "asleep"), (START, function(0))),
            (("awake", "held 0"), (START, function(0), unit(1, 0))),
            (("awake", "awake"), (START, function(0))),
            (("awake", "awake"), (START, function(0), function(0, 1))),
            (("awake", "awake"), (START, function(0), function(1, 1))),
            (("awake", "awake"), (START, function(1))),
            (("awake", "awake"), (START, function(2))),
            (("awake", "awake"), ()),
        ])

    def test_bits(self):
        program = one_function([FIRST], ("branch", 2), ("input", 0), ("branch", 0))
        starts = (0,)
        state = (("awake",), ((START, function(0)),))
        self.assertEqual(steps(program, starts, state), [
            ((0, 0), (("awake",), ((START, function(1)),))), ((0, 1), (("awake",), ((START, function(2)),)))])
        state = (("awake",), ((START, function(1)),))
        after = (("awake",), ((START, function(2)),))
        self.assertEqual(steps(program, starts, state), [((0, 0), after), ((0, 1), after)])
        self.assertEqual(steps(program, starts, after), [
            ((0, 0), (("awake",), ((START, function(3)),))), ((0, 1), (("awake",), ((START, function(0)),)))])
        self.assertEqual(steps(program, starts, (("awake",), ((START, function(3)),))), [((0, 0), (("awake",), ((),)))])

    def test_a_failure_gives_up_many_frames_in_one_move(self):
        units = [FIRST, (None, 0, (("read", 0, 2, 0),)), (3, 1, ()), (None, 0, (("wake", 4, 1),)), FAILS]
        units[3] = (None, 0, (("read", 0, 4, 0),))
        program = one_function([units[0], units[1], (None, 1, (("read", 0, 4, 0),)), (2, 0, ()), FAILS], ("wake", 1, 2), ("show", 0))
        held, broken = ("awake", "held 0", "held 0", "asleep", "held 0"), ("awake", "broken", "broken", "asleep", "broken")
        frames = (START, function(0), unit(1, 0), unit(2, 0), unit(4, 0))
        self.assertEqual(steps(program, (0,), (held, (frames,))), [((0, 0), (broken, ((START, function(2)),)))])
        program = one_function(program[0], ("read", 0, 2, 0), ("show", 0))
        held, broken = ("awake", "asleep", "held 0", "asleep", "held 0"), ("awake", "asleep", "broken", "asleep", "broken")
        frames = (START, function(0), unit(2, 0), unit(4, 0))
        self.assertEqual(steps(program, (0,), (held, (frames,))), [((0, 0), (broken, (((("failed", 0), 0),),)))])

    def test_a_failure_in_called_functions_ends_the_thread(self):
        program = ((FIRST, FAILS), ((0, (("call", 1),)), (0, (("read", 0, 1, 0), ("wake", 1, 2), ("fail",)))))
        failed = (((("failed", 1), 0),),)
        frames = ((("start", 1), 0), function(0), function(0, 1))
        state = (("awake", "broken"), ((), frames))
        self.assertEqual(steps(program, (0, 0), state), [((1, 0), (("awake", "broken"), ((),) + failed))])
        state = (("awake", "broken"), ((), frames[:2] + (function(1, 1),)))
        self.assertEqual(steps(program, (0, 0), state), [
            ((1, 0), (("awake", "broken"), ((), frames[:2] + (function(2, 1),))))])
        state = (("awake", "broken"), ((), frames[:2] + (function(2, 1),)))
        self.assertEqual(steps(program, (0, 0), state), [((1, 0), (("awake", "broken"), ((),) + failed))])

    def test_a_failure_at_the_first_call_or_of_a_parent(self):
        program = ((FAILS, (0, 0, ())), ((1, (("show", 0),)),))
        state = (("broken", "asleep"), ((START,),))
        self.assertEqual(steps(program, (0,), state), [
            ((0, 0), (("broken", "held 0"), ((START, unit(1, -1)),)))])
        state = (("broken", "held 0"), ((START, unit(1, -1)),))
        failed = ("broken", "broken"), ((((("failed", 0), 0)),),)
        self.assertEqual(steps(program, (0,), state), [((0, 0), failed)])
        self.assertEqual(steps(program, (0,), (("broken", "broken"), ((START,),))), [((0, 0), failed)])
        self.assertEqual(steps(program, (0,), failed), [])

    def test_blocked_and_own_accesses(self):
        program = one_function([FIRST, (None, 1, (("read", 0, 1, 0),))], ("read", 0, 1, 0))
        second = (("start", 1), 0), function(0)
        state = (("awake", "held 0"), ((START, function(0), unit(1, 0)), second))
        self.assertEqual(steps(program, (0, 0), state), [
            ((0, 0), (("awake", "held 0"), ((START, function(0), unit(1, 1)), second)))])
        state = (("held 1", "asleep"), ((START,), (second[0], unit(0, 0))))
        self.assertEqual(steps(program, (0, 0), state), [((1, 0), (("awake", "asleep"), ((START,), second[:1])))])
        program = ((EMPTY, (0, 0, ())), ((1, (("show", 0),)), (0, (("show", 0),))))
        state = (("held 1", "held 0"), ((START, unit(1, -1)), (second[0], unit(0, 0))))
        self.assertEqual([move for move, _ in steps(program, (0, 1), state)], [(1, 0)])

    def test_what_is_used_while_its_waking_thread_holds_it(self):
        # Unit 2 uses unit 1, which uses unit 2 while it is waking.
        program = one_function([FIRST, (None, 1, (("write", 2, 0, 0),)), (None, 1, (("read", 0, 1, 0),))], ("read", 0, 2, 0))
        frames = (START, function(0), unit(2, 0), unit(1, 0))
        held = ("awake", "held 0", "held 0")
        self.assertEqual(steps(program, (0,), (held, (frames,))), [((0, 0), (held, (frames[:3] + (unit(1, 1),),)))])

    def test_units_ahead(self):
        program = one_function([FIRST, HOLDS_7, (1, 0, ()), FAILS], ("show", 0))
        self.assertEqual(first_state(program, (0, 0), [2]), (
            ("asleep", "awake", "awake", "asleep"), (((("start", 0), 0),), ((("start", 1), 0),))))
        self.assertEqual(first_state(program, (0, 0), [2, 3]), "failed")
        self.assertRaises(NoMove, state_after, program, (0,), [3], [])
        self.assertEqual(state_after(program, (0,), [1], []), first_state(program, (0,), [1]))


class Schedules(unittest.TestCase):
    def test_moves_that_there_are_not(self):
        program, starts = LOCKED, (0, 1)
        schedule = [(0, 0), (0, 0), (0, 0), (0, 0), (1, 0), (1, 0)]
        self.assertEqual(steps(program, starts, state_after(program, starts, [], schedule)), [])
        for at in range(len(schedule) + 1):
            for wrong in [(0, 1), (1, 1), (2, 0), (-1, 0), (0, -1), (0, 2), (1, 10 ** 20), (3, 0)]:
                for rest in [[], schedule[at:]]:
                    self.assertRaises(NoMove, state_after, program, starts, [], schedule[:at] + [wrong] + rest)
        for wrong in [(0, 0), (1, 0)]:
            self.assertRaises(NoMove, state_after, program, starts, [], schedule + [wrong])

    def test_what_is_no_schedule(self):
        for thing in [*OTHER_KINDS, ((0, 0),), [(0,)], [(0, 0, 0)], [[0, 0]], [0, 0], [(False, 0)], [(0, False)], [("0", 0)],
                      [(0, 0), None], [(None, 0)], [(0, (0,))], [((0, 0),)], {(0, 0): 0}]:
            if thing != []:
                with self.subTest(thing=thing):
                    self.assertRaises(NoMove, state_after, LOCKED, (0, 1), [], thing)
        self.assertEqual(state_after(LOCKED, (0, 1), [], [(0, 0), (0, 0)])[0], ("awake", "asleep", "asleep"))

    def test_nothing_moves_where_an_access_ahead_fails(self):
        program = one_function([FIRST, FAILS], ("show", 0))
        for schedule in [[], [(0, 0)], None, [(5, 5)]]:
            self.assertRaises(NoMove, state_after, program, (0,), [1], schedule)


class Drawn(unittest.TestCase):
    def test_states_that_schedules_lead_to(self):
        kinds = {}
        for seed in range(500):
            program = (drawn_locking if seed % 2 else drawn_program)("threads", seed)
            self.assertTrue(is_program(program))
            dice = random.Random(repr(("threads", seed)))
            starts = drawn_starts(program, dice)
            ahead = dice.sample(range(len(program[0])), dice.choice([0, 0, 1]))
            state = first_state(program, starts, ahead)
            self.assertEqual(state, oracle.first_state(program, starts, ahead))
            schedule = []
            while state != "failed" and len(schedule) < 60:
                found = steps(program, starts, state)
                self.assertEqual(found, oracle.moves(program, starts, state))
                self.assertEqual([move for move, _ in found], sorted(move for move, _ in found))
                if not found:
                    break
                move, state = dice.choice(found)
                schedule.append(move)
                for status in state[0]:
                    kinds[status] = kinds.get(status, 0) + 1
            if state != "failed":
                self.assertEqual(state_after(program, starts, ahead, schedule), state)
        self.assertEqual(set(kinds), {"asleep", "awake", "broken", "held 0", "held 1", "held 2"})
        self.assertGreater(min(kinds.values()), 100)

    def drawn_state(self, program, starts, dice):
        """Return a state of the form of the document, put together by chance."""
        statuses = [dice.choice(["asleep", "awake", "broken"]) for _ in program[0]]
        threads = []
        for thread, start in enumerate(starts):
            frames = [(("start", thread), 0)]
            for _ in range(dice.randint(0, 6)):
                following = self.drawn_frame(program, starts, frames[-1], dice)
                if following is None or (following[0][0] == "unit" and statuses[following[0][1]].startswith("held")):
                    break
                if following[0][0] == "unit":
                    statuses[following[0][1]] = f"held {thread}"
                frames.append(following)
            threads.append(dice.choice([tuple(frames)] * 6 + [(), ((("failed", thread), 0),)]) if len(frames) == 1 else tuple(frames))
        return tuple(statuses), tuple(threads)

    def drawn_frame(self, program, starts, below, dice):
        (kind, number), place = below
        bodies = []
        if kind == "start":
            bodies = [("unit", program[1][starts[number]][0]), ("function", starts[number])]
        elif place == -1:
            bodies = [("unit", program[0][number][0])]
        else:
            code = program[0][number][2] if kind == "unit" else program[1][number][1]
            used = oracle.unit_of(program, code[place]) if place < len(code) else None
            if used is not None:
                bodies = [("unit", used)] + ([("function", code[place][1])] if code[place][0] == "call" else [])
        if not bodies:
            return None
        body = dice.choice(bodies)
        if body[0] == "unit":
            parent, _, code = program[0][body[1]]
            return body, dice.randint(0 if parent is None else -1, len(code))
        return body, dice.randint(0, len(program[1][body[1]][1]))

    def test_states_that_no_schedule_needs_to_lead_to(self):
        unreached = 0
        for seed in range(1500):
            program = drawn_locking("states", seed) if seed % 2 else drawn_program("states", seed, most_units=3)
            dice = random.Random(repr(("states", seed)))
            starts = drawn_starts(program, dice)
            state = self.drawn_state(program, starts, dice)
            with self.subTest(program=program, starts=starts, state=state):
                self.assertEqual(steps(program, starts, state), oracle.moves(program, starts, state))
            if seed < 60 and len(starts) < 3:
                found = oracle.reached(program, starts, [], most=800)
                unreached += found is not None and state not in found
        self.assertGreater(unreached, 10)


class Forms(unittest.TestCase):
    PROGRAM = (
        (FIRST, (0, 1, (("read", 0, 2, 0), ("write", 1, 0, 0))), (None, 1, (("read", 0, 1, 0), ("number", 0, 1)))),
        ((0, (("call", 1), ("wake", 2, 2))), (1, (("read", 0, 2, 0), ("show", 0)))),
    )
    STARTS = (0, 1, 0)
    OTHERS = [None, True, False, 0, 1, 2, 3, -1, -2, 10 ** 20, "", "asleep", "awake", "broken", "waking", "held 0", "held 1",
              "held 2", "held 3", "held", "start", "failed", "unit", "function", "open", (), [], {}, (0,), ("unit", 0), ("unit", 1),
              ("unit", 2), ("function", 0), ("function", 1), (("unit", 2), 0), (("start", 0), 0), ((("failed", 0), 0),)]

    def is_state(self, state):
        try:
            steps(self.PROGRAM, self.STARTS, state)
        except NoState:
            return False
        return True

    def assert_none(self, state):
        with self.subTest(state=state):
            self.assertRaises(NoState, steps, self.PROGRAM, self.STARTS, state)

    def states(self):
        """Return states with frames of all kinds."""
        waking = ((("start", 1), 0), function(0, 1), unit(2, 0))
        return [
            first_state(self.PROGRAM, self.STARTS, []),
            (("awake", "held 0", "held 1"), ((START, function(0), unit(1, -1)), waking, ())),
            (("held 0", "held 0", "asleep"), ((START, function(0), unit(1, -1), unit(0, 0)), (((("failed", 1), 0)),), ())),
            (("broken", "held 1", "held 1"), ((START, function(0), function(2, 1)), waking + (unit(1, 1),), ())),
            (("held 2", "asleep", "awake"), ((), (((("start", 1), 0)),), ((("start", 2), 0), unit(0, 0)))),
            (("asleep", "held 1", "asleep"), ((START, function(2)), ((("start", 1), 0), unit(1, 2)), (((("failed", 2), 0)),))),
        ]

    def test_states(self):
        for state in self.states():
            self.assertTrue(self.is_state(state))
            self.assertEqual(steps(self.PROGRAM, self.STARTS, state), oracle.moves(self.PROGRAM, self.STARTS, state))

    def test_one_part_changed(self):
        # What still has the form is counted, and compared with a test of the form written another way.
        kept = 0
        for state in self.states():
            for path, part in nodes(state):
                for other in self.OTHERS:
                    if (type(part), part) != (type(other), other):
                        changed = replaced(state, path, other)
                        expected = has_form(self.PROGRAM, self.STARTS, changed)
                        with self.subTest(changed=changed):
                            self.assertEqual(self.is_state(changed), expected)
                        kept += expected
        self.assertGreater(kept, 30)

    def test_frames_left_out_put_in_and_exchanged(self):
        for state in self.states():
            statuses, threads = state
            for one in range(3):
                for other in range(3):
                    if one != other:
                        exchanged = list(threads)
                        exchanged[one], exchanged[other] = threads[other], threads[one]
                        if tuple(exchanged) != threads:
                            self.check((statuses, tuple(exchanged)))
                for at in range(len(threads[one])):
                    rest = threads[one][:at] + threads[one][at + 1:]
                    self.check((statuses, threads[:one] + (rest,) + threads[one + 1:]))
                    for frame in [START, function(0), function(1, 1), unit(0, 0), unit(2, 1), threads[one][at]]:
                        more = threads[one][:at] + (frame,) + threads[one][at:]
                        self.check((statuses, threads[:one] + (more,) + threads[one + 1:]))
            for at in range(3):
                self.assert_none((statuses, threads[:at] + threads[at + 1:]))
                self.assert_none((statuses[:at] + statuses[at + 1:], threads))
                self.assert_none((statuses, threads + (threads[at],)))
                self.assert_none((statuses + (statuses[at],), threads))

    def check(self, state):
        with self.subTest(state=state):
            self.assertEqual(self.is_state(state), has_form(self.PROGRAM, self.STARTS, state))

    def test_lists_and_booleans(self):
        for state in self.states():
            for path, part in nodes(state):
                if isinstance(part, tuple):
                    self.assert_none(replaced(state, path, list(part)))
                elif part in (0, 1):
                    self.assert_none(replaced(state, path, bool(part)))

    def test_two_frames_of_one_initializer(self):
        twice = (START, function(0), unit(1, 0), unit(2, 0), unit(1, 0))
        others = ((("start", 1), 0),), ((("start", 2), 0),)
        self.assert_none((("awake", "held 0", "held 0"), (twice,) + others))
        shared = ((("start", 1), 0), unit(1, 0))
        self.assert_none((("awake", "held 0", "asleep"), ((START, function(0), unit(1, 0)), shared, ())))
        self.assert_none((("awake", "held 1", "asleep"), ((START, function(0), unit(1, 0)), shared, ())))

    def test_other_things(self):
        for thing in OTHER_KINDS:
            self.assert_none(thing)
        for state in self.states():
            self.assert_none(state + ((),))
            self.assert_none(state[:1])
            self.assert_none((state,))
            self.assert_none([state])
            self.assert_none({0: state})
            self.assert_none(state[::-1])

    def test_other_starts(self):
        state = first_state(self.PROGRAM, (0, 1), [])
        self.assertEqual(len(steps(self.PROGRAM, (0, 1), state)), 2)
        self.assertEqual(len(steps(self.PROGRAM, (1, 1), state)), 2)
        self.assertRaises(NoState, steps, self.PROGRAM, (0,), state)
        self.assertRaises(NoState, steps, self.PROGRAM, (0, 1, 1), state)


def has_form(program, starts, thing):
    """Tell whether thing has the form of a state: all states with its statuses are tried, frame by frame."""
    if not (type(thing) is tuple and len(thing) == 2 and all(type(part) is tuple for part in thing)):
        return False
    statuses, threads = thing
    if len(statuses) != len(program[0]) or len(threads) != len(starts):
        return False
    seen = {}
    for thread, frames in enumerate(threads):
        if type(frames) is not tuple or not all(exact(frame) for frame in frames):
            return False
        if frames in [(), ((("failed", thread), 0),)]:
            continue
        allowed = [(("start", thread), 0)]
        for frame in frames:
            if frame not in allowed:
                return False
            if frame[0][0] == "unit":
                if frame[0][1] in seen:
                    return False
                seen[frame[0][1]] = thread
            allowed = frames_on(program, starts, frame)
    for number, status in enumerate(statuses):
        expected = [f"held {seen[number]}"] if number in seen else ["asleep", "awake", "broken"]
        if type(status) is not str or status not in expected:
            return False
    return True


def exact(frame):
    return (type(frame) is tuple and len(frame) == 2 and type(frame[0]) is tuple and len(frame[0]) == 2
            and type(frame[0][0]) is str and type(frame[0][1]) is int and type(frame[1]) is int)


def frames_on(program, starts, frame):
    """Return the list of all frames that may stand on this one."""
    (kind, number), place = frame
    if kind == "start":
        bodies = [("unit", program[1][starts[number]][0]), ("function", starts[number])]
    elif place == -1:
        bodies = [("unit", program[0][number][0])]
    else:
        code = program[0 if kind == "unit" else 1][number][-1]
        bodies = []
        if place < len(code):
            used = oracle.unit_of(program, code[place])
            bodies = [] if used is None else [("unit", used)]
            if code[place][0] == "call":
                bodies.append(("function", code[place][1]))
    found = []
    for word, other in bodies:
        code = program[0 if word == "unit" else 1][other][-1]
        least = -1 if word == "unit" and program[0][other][0] is not None else 0
        found.extend(((word, other), at) for at in range(least, len(code) + 1))
    return found


if __name__ == "__main__":
    unittest.main()
