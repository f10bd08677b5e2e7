"""Callers, their states and moves: single rules, drawn programs against the oracle, and what has not the form of a state."""

import random
import unittest

from firstwake.callers import caller_state, caller_steps
from firstwake.errors import NoState
from firstwake.programs import accesses
from firstwake.threads import first_state, steps
from tests import thread_oracle as oracle
from tests.drawn import drawn_locking, drawn_program
from tests.samples import FIRST, LOCKED, OTHER_KINDS, SHOW, nodes, one_function, replaced
from tests.test_threads import exact, frames_on as frames_on_starts

EMPTY = (None, 0, ())
HOLDS_7 = (None, 1, (("number", 0, 7), ("write", 1, 0, 0)))
FAILS = (None, 1, (("fail",),))
OPEN = (("open", 0), 0)


def function(place, number=0):
    return ("function", number), place


def unit(number, place):
    return ("unit", number), place


def call(number):
    return ("call", number), 0


def drawn_callers(program, dice, most=3):
    many = dice.choice([1, 2, 2, 3][:most + 1])
    return tuple(dice.choice([*range(len(program[1])), "open", "open"]) for _ in range(many))


def drawn_unchecked(program, dice):
    spots = [access for access in accesses(program) if word(program, *access) != "wake"]
    return dice.sample(spots, dice.randint(0, min(3, len(spots))))


def word(program, body, place):
    return program[0 if body[0] == "unit" else 1][body[1]][-1][place][0]


class Moves(unittest.TestCase):
    def only(self, program, state, move, unchecked=(), callers=("open",)):
        """Return the state after the one move of this thread that there is."""
        found = [(one, after) for one, after in caller_steps(program, callers, list(unchecked), state) if one[0] == move[0]]
        self.assertEqual([one for one, _ in found], [move])
        return found[0][1]

    def test_an_open_thread_step_by_step(self):
        program = ((FIRST, (None, 1, (("number", 0, 7),))), ((0, (SHOW,)), (1, (("call", 2),)), (0, (SHOW,))))
        state = caller_state(program, ("open",), [])
        self.assertEqual(state, (("asleep", "asleep"), ((OPEN,),)))
        self.assertEqual(caller_steps(program, ("open",), [], state), [
            ((0, number), (("asleep", "asleep"), ((OPEN, call(number)),))) for number in range(3)])
        state = (("asleep", "asleep"), ((OPEN, call(1)),))
        for statuses, frames in [
            (("asleep", "held 0"), (OPEN, call(1), unit(1, 0))), (("asleep", "held 0"), (OPEN, call(1), unit(1, 1))),
            (("asleep", "awake"), (OPEN, call(1))), (("asleep", "awake"), (OPEN, call(1), function(0, 1))),
            (("held 0", "awake"), (OPEN, call(1), function(0, 1), unit(0, 0))),
            (("awake", "awake"), (OPEN, call(1), function(0, 1))),
            (("awake", "awake"), (OPEN, call(1), function(0, 1), function(0, 2))),
            (("awake", "awake"), (OPEN, call(1), function(0, 1), function(1, 2))),
            (("awake", "awake"), (OPEN, call(1), function(1, 1))), (("awake", "awake"), (OPEN,)),
        ]:
            state = self.only(program, state, (0, 0))
            self.assertEqual(state, (statuses, (frames,)))
        self.assertEqual(len(caller_steps(program, ("open",), [], state)), 3)

    def test_failures_of_calls(self):
        program = ((FIRST, FAILS), ((1, (SHOW,)), (0, (("read", 0, 1, 0),)), (0, (("call", 3),)), (0, (("fail",),))))
        idle = (("awake", "broken"), ((OPEN,),))
        self.assertEqual(self.only(program, (("awake", "broken"), ((OPEN, call(0)),)), (0, 0)), idle)
        held = (("awake", "held 0"), ((OPEN, call(0), unit(1, 0)),))
        self.assertEqual(self.only(program, held, (0, 0)), idle)
        self.assertEqual(self.only(program, (("awake", "broken"), ((OPEN, call(1), function(0, 1)),)), (0, 0)), idle)
        held = (("awake", "held 0"), ((OPEN, call(1), function(0, 1), unit(1, 0)),))
        self.assertEqual(self.only(program, held, (0, 0)), idle)
        state = (("awake", "broken"), ((OPEN, call(2), function(0, 2), function(0, 3)),))
        self.assertEqual(self.only(program, state, (0, 0)), idle)

    def test_a_wake_that_catches_within_a_call(self):
        program = ((FIRST, FAILS, (1, 0, ())), ((0, (("wake", 2, 2), SHOW)),))
        state = (("awake", "held 0", "held 0"), ((OPEN, call(0), function(0), unit(2, -1), unit(1, 0)),))
        after = self.only(program, state, (0, 0))
        self.assertEqual(after, (("awake", "broken", "broken"), ((OPEN, call(0), function(2)),)))
        self.assertEqual(self.only(program, after, (0, 0)), (("awake", "broken", "broken"), ((OPEN,),)))

    def test_callers_with_numbers_are_threads_of_starts(self):
        for seed in range(200):
            program = drawn_locking("numbers", seed)
            dice = random.Random(repr(("numbers", seed)))
            starts = tuple(dice.randrange(len(program[1])) for _ in range(dice.choice([1, 2, 3])))
            ahead = dice.sample(range(len(program[0])), dice.choice([0, 1]))
            state = caller_state(program, starts, ahead)
            self.assertEqual(state, first_state(program, starts, ahead))
            while state != "failed":
                found = caller_steps(program, starts, [], state)
                self.assertEqual(found, steps(program, starts, state))
                if not found or dice.random() < 0.03:
                    break
                state = dice.choice(found)[1]

    def test_bits_and_functions_of_moves(self):
        program = ((FIRST,), ((0, (("branch", 1), ("input", 0))), (0, (SHOW,))))
        state = (("awake",), ((OPEN,), ((("open", 1), 0), call(0), function(0))))
        self.assertEqual([move for move, _ in caller_steps(program, ("open", "open"), [], state)], [(0, 0), (0, 1), (1, 0), (1, 1)])
        state = (("awake",), ((OPEN, call(0), function(1)), ()))
        self.assertEqual(caller_steps(program, ("open", 1), [], state), [
            ((0, bit), (("awake",), ((OPEN, call(0), function(2)), ()))) for bit in (0, 1)])

    def test_units_ahead(self):
        program = one_function([FIRST, HOLDS_7, FAILS], SHOW)
        self.assertEqual(caller_state(program, ("open", 0), [1]), (
            ("asleep", "awake", "asleep"), ((OPEN,), ((("start", 1), 0),))))
        self.assertEqual(caller_state(program, ("open",), [1, 2]), "failed")


class Unchecked(unittest.TestCase):
    def test_in_each_status(self):
        program = ((FIRST, HOLDS_7), ((0, (("read", 0, 1, 0), SHOW)), (0, (("write", 1, 0, 0), ("call", 2))), (1, (SHOW,))))
        other = (("open", 1), 0), call(2), unit(1, 0)
        for status, rest in [("asleep", other[:2]), ("awake", other[:2]), ("broken", other[:1]), ("held 1", other)]:
            state = ("awake", status), ((OPEN, call(0), function(0)), rest)
            found = dict(caller_steps(program, ("open", "open"), [(("function", 0), 0)], state))
            self.assertEqual(found[(0, 0)], (("awake", status), ((OPEN, call(0), function(1)), rest)))
            checked = dict(caller_steps(program, ("open", "open"), [(("function", 1), 0)], state))
            self.assertEqual(checked.get((0, 0)) == found[(0, 0)], status == "awake")
            state = ("awake", status), ((OPEN, call(1), function(1, 1)), rest)
            found = dict(caller_steps(program, ("open", "open"), [(("function", 1), 1)], state))
            self.assertEqual(found[(0, 0)], (("awake", status), ((OPEN, call(1), function(1, 1), function(0, 2)), rest)))

    def test_in_initializers(self):
        program = one_function([FIRST, HOLDS_7, (None, 0, (("read", 0, 1, 0),))], ("wake", 2, 1))
        state = ("awake", "broken", "held 0"), ((OPEN, call(0), function(0), unit(2, 0)),)
        self.assertEqual(caller_steps(program, ("open",), [(("unit", 2), 0)], state), [
            ((0, 0), (("awake", "broken", "held 0"), ((OPEN, call(0), function(0), unit(2, 1)),)))])

    def test_parents_and_first_accesses_stay_checked(self):
        program = ((EMPTY, (0, 0, ())), ((1, (("call", 1),)), (1, (SHOW,))))
        unchecked = [(("function", 0), 0)]
        state = ("asleep", "asleep"), ((OPEN, call(0)),)
        self.assertEqual(caller_steps(program, ("open",), unchecked, state)[0][1], (
            ("asleep", "held 0"), ((OPEN, call(0), unit(1, -1)),)))
        state = ("asleep", "held 0"), ((OPEN, call(0), unit(1, -1)),)
        self.assertEqual(caller_steps(program, ("open",), unchecked, state)[0][1], (
            ("held 0", "held 0"), ((OPEN, call(0), unit(1, -1), unit(0, 0)),)))

    def test_a_frame_may_stand_on_an_unchecked_access(self):
        # No move leads there, but it is a state: the initializer ends, and the access just takes place.
        program = one_function([FIRST, HOLDS_7], ("read", 0, 1, 0), SHOW)
        state = ("awake", "held 0"), ((OPEN, call(0), function(0), unit(1, 2)),)
        after = caller_steps(program, ("open",), [(("function", 0), 0)], state)[0][1]
        self.assertEqual(after, (("awake", "awake"), ((OPEN, call(0), function(0)),)))


class Drawn(unittest.TestCase):
    def test_states_that_moves_lead_to(self):
        kinds = {}
        for seed in range(500):
            program = (drawn_locking if seed % 3 else drawn_program)("callers", seed)
            dice = random.Random(repr(("callers", seed)))
            callers, unchecked = drawn_callers(program, dice), drawn_unchecked(program, dice)
            ahead = dice.sample(range(len(program[0])), dice.choice([0, 0, 1]))
            state = caller_state(program, callers, ahead)
            self.assertEqual(state, oracle.first_state(program, callers, ahead))
            for _ in range(60 if state != "failed" else 0):
                found = caller_steps(program, callers, unchecked, state)
                self.assertEqual(found, oracle.moves(program, callers, state, unchecked))
                if not found:
                    break
                state = dice.choice(found)[1]
                for frames in state[1]:
                    for body, _ in frames:
                        kinds[body[0]] = kinds.get(body[0], 0) + 1
                self.assertEqual([frames for frames, caller in zip(state[1], callers) if caller == "open" and (
                    frames == () or frames[0][0][0] == "failed")], [])
        self.assertEqual(set(kinds), {"open", "call", "start", "failed", "unit", "function"})

    def test_states_that_no_moves_need_to_lead_to(self):
        for seed in range(1000):
            program = drawn_locking("caller states", seed) if seed % 2 else drawn_program("caller states", seed, most_units=3)
            dice = random.Random(repr(("caller states", seed)))
            callers, unchecked = drawn_callers(program, dice), drawn_unchecked(program, dice)
            state = drawn_state(program, callers, dice)
            with self.subTest(program=program, callers=callers, unchecked=unchecked, state=state):
                self.assertEqual(caller_steps(program, callers, unchecked, state), oracle.moves(program, callers, state, unchecked))


def drawn_state(program, callers, dice):
    """Return a state of the form of the document, put together by chance."""
    statuses = [dice.choice(["asleep", "awake", "broken"]) for _ in program[0]]
    threads = []
    for thread, caller in enumerate(callers):
        frames = [(("open" if caller == "open" else "start", thread), 0)]
        for _ in range(dice.randint(0, 6)):
            several = frames_on(program, callers, frames[-1])
            following = dice.choice(several) if several else None
            if following is None or (following[0][0] == "unit" and statuses[following[0][1]].startswith("held")):
                break
            if following[0][0] == "unit":
                statuses[following[0][1]] = f"held {thread}"
            frames.append(following)
        threads.append(tuple(frames))
    return tuple(statuses), tuple(threads)


def frames_on(program, callers, frame):
    """Return the list of all frames that may stand on this one."""
    (kind, number), place = frame
    if kind == "open":
        return [call(function) for function in range(len(program[1]))]
    if kind == "call":
        return frames_on_starts(program, (number,), (("start", 0), 0))
    return frames_on_starts(program, callers, frame)


class Forms(unittest.TestCase):
    PROGRAM = (
        (FIRST, (0, 1, (("read", 0, 2, 0), ("write", 1, 0, 0))), (None, 1, (("read", 0, 1, 0), ("number", 0, 1)))),
        ((0, (("call", 1), ("wake", 2, 2))), (1, (("read", 0, 2, 0), SHOW))),
    )
    CALLERS = ("open", 1, "open")
    UNCHECKED = [(("function", 1), 0), (("unit", 2), 0)]
    OTHERS = [None, True, False, 0, 1, 2, 3, -1, -2, 10 ** 20, "", "asleep", "awake", "broken", "waking", "held 0", "held 1",
              "held 2", "held 3", "held", "start", "failed", "unit", "function", "open", "call", (), [], {}, (0,), ("unit", 0),
              ("unit", 1), ("unit", 2), ("function", 0), ("function", 1), ("call", 0), ("call", 1), ("call", 2), (("unit", 2), 0),
              (("start", 0), 0), (("open", 0), 0), (("call", 1), 0), ((("failed", 0), 0),), (OPEN,)]

    def states(self):
        """Return states with frames of all kinds."""
        third = (("open", 2), 0)
        waking = ((("start", 1), 0), function(0, 1), unit(2, 0))
        return [
            caller_state(self.PROGRAM, self.CALLERS, []),
            (("awake", "held 0", "held 1"), ((OPEN, call(0), function(0), unit(1, -1)), waking, (third,))),
            (("held 0", "held 0", "asleep"), ((OPEN, call(1), unit(1, -1), unit(0, 0)), (((("failed", 1), 0)),), (third, call(0)))),
            (("broken", "held 1", "held 1"), ((OPEN, call(0), function(0), function(2, 1)), waking + (unit(1, 1),), (third,))),
            (("held 2", "asleep", "awake"), ((OPEN,), (((("start", 1), 0)),), (third, call(0), unit(0, 0)))),
            (("asleep", "held 2", "asleep"), ((OPEN, call(0), function(2)), (), (third, call(1), unit(1, 2)))),
        ]

    def is_state(self, state):
        try:
            caller_steps(self.PROGRAM, self.CALLERS, self.UNCHECKED, state)
        except NoState:
            return False
        return True

    def assert_none(self, state):
        with self.subTest(state=state):
            self.assertRaises(NoState, caller_steps, self.PROGRAM, self.CALLERS, self.UNCHECKED, state)

    def check(self, state):
        expected = has_form(self.PROGRAM, self.CALLERS, state)
        with self.subTest(state=state):
            self.assertEqual(self.is_state(state), expected)
        return expected

    def test_states(self):
        for state in self.states():
            self.assertTrue(has_form(self.PROGRAM, self.CALLERS, state))
            self.assertEqual(caller_steps(self.PROGRAM, self.CALLERS, self.UNCHECKED, state),
                             oracle.moves(self.PROGRAM, self.CALLERS, state, self.UNCHECKED))

    def test_one_part_changed(self):
        kept = 0
        for state in self.states():
            for path, part in nodes(state):
                for other in self.OTHERS:
                    if (type(part), part) != (type(other), other):
                        kept += self.check(replaced(state, path, other))
        self.assertGreater(kept, 30)

    def test_frames_left_out_put_in_and_exchanged(self):
        for statuses, threads in self.states():
            for one in range(3):
                for other in range(3):
                    exchanged = list(threads)
                    exchanged[one], exchanged[other] = threads[other], threads[one]
                    self.check((statuses, tuple(exchanged)))
                for at in range(len(threads[one])):
                    rest = threads[one][:at] + threads[one][at + 1:]
                    self.check((statuses, threads[:one] + (rest,) + threads[one + 1:]))
                    for frame in [OPEN, (("start", 1), 0), call(0), call(1), function(0), function(1, 1), unit(0, 0), unit(2, 1),
                                  threads[one][at], (("failed", one), 0), (("call", 2), 0), (("call", 0), 1), (("open", one), 0)]:
                        more = threads[one][:at + 1] + (frame,) + threads[one][at + 1:]
                        self.check((statuses, threads[:one] + (more,) + threads[one + 1:]))
                        self.check((statuses, threads[:one] + ((frame,),) + threads[one + 1:]))
                self.check((statuses, threads[:one] + ((),) + threads[one + 1:]))

    def test_a_unit_told_as_held_by_a_thread_that_does_not_hold_it(self):
        for statuses, threads in self.states():
            for at in range(3):
                for status in ["asleep", "awake", "broken", "held 0", "held 1", "held 2", "held 3"]:
                    if status != statuses[at]:
                        changed = statuses[:at] + (status,) + statuses[at + 1:]
                        kept = not statuses[at].startswith("held") and not status.startswith("held")
                        self.assertEqual(self.check((changed, threads)), kept)

    def test_lists_and_booleans(self):
        for state in self.states():
            for path, part in nodes(state):
                if isinstance(part, tuple):
                    self.assert_none(replaced(state, path, list(part)))
                elif part in (0, 1):
                    self.assert_none(replaced(state, path, bool(part)))

    def test_other_things(self):
        for thing in OTHER_KINDS:
            self.assert_none(thing)
        for state in self.states():
            for thing in [state + ((),), state[:1], (state,), [state], {0: state}, state[::-1]]:
                self.assert_none(thing)

    def test_other_callers(self):
        state = caller_state(LOCKED, ("open", 0), [])
        self.assertEqual(len(caller_steps(LOCKED, ("open", 1), [], state)), 3)
        for callers in [(0, 0), ("open", "open"), (0, "open"), ("open",), ("open", 0, 0)]:
            self.assertRaises(NoState, caller_steps, LOCKED, callers, [], state)


def has_form(program, callers, thing):
    """Tell whether thing has the form of a state: each frame is one of those that may stand where it stands."""
    if not (type(thing) is tuple and len(thing) == 2 and all(type(part) is tuple for part in thing)):
        return False
    statuses, threads = thing
    if len(statuses) != len(program[0]) or len(threads) != len(callers):
        return False
    seen = {}
    for thread, frames in enumerate(threads):
        if type(frames) is not tuple or not all(exact(frame) for frame in frames):
            return False
        is_open = callers[thread] == "open"
        if frames in [(), ((("failed", thread), 0),)]:
            if is_open:
                return False
            continue
        allowed = [(("open" if is_open else "start", thread), 0)]
        for frame in frames:
            if frame not in allowed or (frame[0][0] == "unit" and frame[0][1] in seen):
                return False
            if frame[0][0] == "unit":
                seen[frame[0][1]] = thread
            allowed = frames_on(program, callers, frame)
    for number, status in enumerate(statuses):
        if type(status) is not str or status not in ([f"held {seen[number]}"] if number in seen else ["asleep", "awake", "broken"]):
            return False
    return True


if __name__ == "__main__":
    unittest.main()
