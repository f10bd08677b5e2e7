"""Sessions: drawn calls of all methods compared with whole executions of their histories, and each method by itself."""

import copy
import inspect
import random
import unittest

from firstwake.errors import NoFunction, NoMove, NoNumber, NoPlan, NoProgram, NoRoom
from firstwake.libraries import Session, history_run
from tests.drawn import drawn_plan, drawn_program
from tests.history_oracle import run_history
from tests.samples import FIRST, LIBRARY, NO_PROGRAMS, OTHER_KINDS, SESSION

NOTHING = ([], [], [])
HOLDS_7 = (None, 1, (("number", 0, 7), ("write", 1, 0, 0)))
FAILS = (None, 1, (("fail",),))
WAITING = ((FIRST, HOLDS_7), ((0, (("show", 0), ("input", 0), ("show", 0))), (1, (("show", 0),))))
NO_INDEXES = [None, True, False, -1, 10 ** 20, -10 ** 20, "", "0", (), (0,), [], [0], {}]


class Model:
    """What a session is to be: its history, executed anew by the oracle each time."""

    def __init__(self, program, plan):
        self.program, self.plan = program, plan
        self.calls, self.inputs, self.marks = [], [], []

    def execution(self):
        return run_history(self.program, (self.calls, self.inputs), self.plan)

    def stands(self):
        if run_history(self.program, ([], []), self.plan).end == "failed":
            return "failed"
        ends = self.execution().ends
        return "waits" if ends and ends[-1] == "waits" else "idle"

    def everything(self):
        return self.stands(), (self.calls, self.inputs), self.execution().records(), len(self.calls)


def everything(session):
    return session.stands(), session.history(), session.record(), len(session)


class Drawn(unittest.TestCase):
    def try_call(self, session, model, dice, told):
        word = dice.choice(["call", "call", "feed", "feed", "mark", "back"])
        told[word] = told.get(word, 0) + 1
        if word == "call":
            function = dice.randrange(len(model.program[1]))
            if model.stands() == "idle":
                model.calls.append(function)
                self.assertIsNone(session.call(function))
            else:
                self.assertRaises(NoMove, session.call, function)
                told["refused"] = told.get("refused", 0) + 1
        elif word == "feed":
            number = dice.choice([0, 0, 1, 7, 65535])
            model.inputs.append(number)
            self.assertIsNone(session.feed(number))
        elif word == "mark":
            model.marks.append((list(model.calls), list(model.inputs)))
            self.assertEqual(session.mark(), len(model.marks) - 1)
        elif dice.random() < 0.4:
            number = dice.randrange(len(model.marks) + 1)
            if number < len(model.marks):
                model.calls, model.inputs = [list(part) for part in model.marks[number]]
                del model.marks[number + 1:]
                self.assertIsNone(session.back(number))
            else:
                self.assertRaises(NoNumber, session.back, number)

    def test_all_methods_in_any_order(self):
        told, stands = {}, {}
        for seed in range(300):
            program = drawn_program("sessions", seed)
            dice = random.Random(repr(("sessions", seed)))
            plan = dice.choice([NOTHING, drawn_plan(program, "sessions", seed)])
            session, model = Session(program, plan), Model(program, plan)
            kept = []
            for _ in range(30):
                self.try_call(session, model, dice, told)
                found = everything(session)
                with self.subTest(program=program, plan=plan):
                    self.assertEqual(found, model.everything())
                    self.assertEqual(found[2], history_run(program, found[1], plan))
                kept.append((found, copy.deepcopy(found)))
                stands[found[0]] = stands.get(found[0], 0) + 1
            self.assertEqual([one for one, _ in kept], [one for _, one in kept])
        self.assertEqual(set(stands), {"idle", "waits", "failed"})
        self.assertGreater(min(stands.values()), 100, stands)
        self.assertGreater(told["refused"], 100)

    def test_sessions_of_one_program_side_by_side(self):
        for seed in range(60):
            program = drawn_program("sessions aside", seed)
            dice = random.Random(repr(("sessions aside", seed)))
            plan = drawn_plan(program, "sessions aside", seed)
            sessions, models = [Session(program, plan) for _ in range(2)], [Model(program, plan) for _ in range(2)]
            for _ in range(30):
                at = dice.randrange(2)
                self.try_call(sessions[at], models[at], dice, {})
                for session, model in zip(sessions, models):
                    self.assertEqual(everything(session), model.everything())
                self.assertEqual(sessions[0] == sessions[1], models[0].everything()[1] == models[1].everything()[1])


class Methods(unittest.TestCase):
    def test_they_stand_in_the_class_itself(self):
        for name, parameters in [
            ("__init__", ["program", "plan"]), ("call", ["function"]), ("feed", ["number"]), ("back", ["number"]),
            ("stands", []), ("history", []), ("record", []), ("mark", []), ("__len__", []), ("__eq__", ["other"]),
        ]:
            self.assertIn(name, vars(Session))
            self.assertEqual(list(inspect.signature(vars(Session)[name]).parameters), ["self"] + parameters)
        self.assertEqual(Session.__module__, "firstwake.libraries")

    def test_calls_by_names(self):
        session = Session(plan=NOTHING, program=SESSION)
        self.assertEqual((session.call(function=0), session.feed(number=5), session.mark(), session.back(number=0)),
                         (None, None, 0, None))
        self.assertEqual(session.record()[:2], (["done"], [5]))

    def test_the_example(self):
        session = Session(SESSION, NOTHING)
        self.assertEqual(everything(session), ("idle", ([], []), ([], [], [], [], {}, [], []), 0))
        session.call(0)
        self.assertEqual((session.stands(), session.mark()), ("waits", 0))
        session.feed(5)
        self.assertEqual((session.stands(), session.record()[:2]), ("idle", (["done"], [5])))
        session.back(0)
        self.assertEqual((session.stands(), session.history(), len(session)), ("waits", ([0], []), 1))

    def test_inputs_fed_while_idle_are_taken_later(self):
        session = Session(WAITING, NOTHING)
        session.feed(4)
        session.feed(5)
        self.assertEqual((session.stands(), session.history(), session.record()[0]), ("idle", ([], [4, 5]), []))
        session.call(0)
        session.call(1)
        session.call(0)
        self.assertEqual((session.stands(), session.record()[0], session.record()[1]), ("idle", ["done"] * 3, [0, 4, 0, 0, 5]))
        session.call(0)
        self.assertEqual((session.stands(), session.record()[0][-1]), ("waits", "waits"))
        session.feed(6)
        self.assertEqual((session.stands(), session.record()[1][-1]), ("idle", 6))

    def test_a_call_that_waits_twice(self):
        program = ((FIRST,), ((0, (("input", 0), ("show", 0), ("branch", 0))),))
        session = Session(program, NOTHING)
        session.call(0)
        for number, output in [(3, [3]), (1, [3]), (4, [3, 4])]:
            self.assertEqual(session.stands(), "waits")
            self.assertRaises(NoMove, session.call, 0)
            session.feed(number)
            self.assertEqual(session.record()[1], output)
        session.feed(0)
        self.assertEqual((session.stands(), session.record()[0]), ("idle", ["done"]))

    def test_what_precedes_a_wait_happens_once(self):
        # The extra access, and what is found at the instruction, are not there again when the call goes on.
        program = ((FIRST, HOLDS_7), ((0, (("show", 0), ("branch", 0), ("input", 0), ("show", 0))),))
        plan = ([], [], [(0, 1, 1), (0, 2, 1)])
        session = Session(program, plan)
        session.call(0)
        self.assertEqual(session.record()[5], [(0, 0), (1, 1)])
        for number in [1, 0, 8]:
            session.feed(number)
            self.assertEqual(session.record(), history_run(program, session.history(), plan))
        self.assertEqual((session.stands(), session.record()[1]), ("idle", [0, 0, 8]))

    def test_an_extra_access_that_fails_before_a_wait(self):
        program = ((FIRST, FAILS), ((0, (("show", 0), ("input", 0))),))
        session = Session(program, ([], [], [(0, 1, 1)]))
        session.call(0)
        self.assertEqual((session.stands(), session.record()[0]), ("idle", ["failed"]))
        session.call(0)
        self.assertEqual((session.stands(), session.record()[0]), ("waits", ["failed", "waits"]))

    def test_a_unit_ahead_that_fails(self):
        program = ((FIRST, FAILS), ((0, (("show", 0),)),))
        session = Session(program, ([0, 1], [], []))
        self.assertEqual((session.stands(), session.record()), ("failed", ([], [], [], [], {}, [(0, -1), (1, -1)], [])))
        self.assertRaises(NoMove, session.call, 0)
        self.assertRaises(NoFunction, session.call, 1)
        for _ in range(100):
            self.assertIsNone(session.feed(1))
        self.assertRaises(NoRoom, session.feed, 1)
        self.assertEqual((session.history(), len(session)), (([], [1] * 100), 0))
        session.mark()
        session.back(0)
        self.assertEqual(session.stands(), "failed")

    def test_room_for_calls(self):
        program = ((FIRST,), ((0, (("show", 0),)), (0, (("input", 0),))))
        session = Session(program, NOTHING)
        for many in range(100):
            self.assertEqual(len(session), many)
            session.call(0)
        session.mark()
        self.assertRaises(NoRoom, session.call, 0)
        self.assertRaises(NoFunction, session.call, 2)
        session.back(0)
        self.assertRaises(NoRoom, session.call, 1)
        self.assertEqual((len(session), session.stands()), (100, "idle"))

    def test_no_move_comes_before_no_room(self):
        program = ((FIRST,), ((0, (("show", 0),)), (0, (("input", 0),))))
        session = Session(program, NOTHING)
        for _ in range(99):
            session.call(0)
        session.mark()
        for _ in range(3):
            session.call(1)
            self.assertEqual((len(session), session.stands()), (100, "waits"))
            self.assertRaises(NoMove, session.call, 0)
            self.assertRaises(NoFunction, session.call, -1)
            session.feed(5)
            self.assertRaises(NoRoom, session.call, 0)
            session.back(0)
            self.assertEqual(len(session), 99)

    def test_room_for_inputs(self):
        session = Session(SESSION, NOTHING)
        for number in range(99):
            session.feed(number)
        session.mark()
        for _ in range(3):
            session.feed(1)
            self.assertRaises(NoRoom, session.feed, 1)
            self.assertRaises(NoNumber, session.feed, 65536)
            session.back(0)
        for _ in range(100):
            if session.stands() == "idle" and len(session) < 99:
                session.call(0)
        self.assertEqual(session.history()[1], list(range(99)))
        session.call(0)
        self.assertEqual(session.stands(), "waits")
        session.feed(9)
        self.assertEqual((session.stands(), session.record()[1][-1]), ("idle", 9))
        self.assertRaises(NoRoom, session.feed, 0)

    def test_marks(self):
        session = Session(WAITING, ([1], [], []))
        self.assertRaises(NoNumber, session.back, 0)
        session.call(1)
        found = [everything(session)]
        self.assertEqual(session.mark(), 0)
        session.call(0)
        found.append(everything(session))
        self.assertEqual((session.mark(), session.mark()), (1, 2))
        session.feed(3)
        session.call(0)
        session.back(2)
        self.assertEqual(everything(session), found[1])
        session.feed(9)
        self.assertEqual(session.record()[1], [0, 0, 9])
        session.back(1)
        self.assertEqual(everything(session), found[1])
        for number in NO_INDEXES + [2]:
            self.assertRaises(NoNumber, session.back, number)
        self.assertEqual(session.mark(), 2)
        for _ in range(2):
            session.back(0)
            self.assertEqual(everything(session), found[0])
            self.assertRaises(NoNumber, session.back, 1)
            session.call(0)
            session.feed(4)
            self.assertEqual(session.record()[1], [0, 0, 4])
        self.assertEqual(session.mark(), 1)

    def test_slots_and_fields_come_back(self):
        program = ((FIRST, (None, 1, ())), ((0, (("number", 0, 5), ("read", 1, 1, 0), ("input", 2), ("add", 0, 1), ("add", 1, 1),
                                                ("write", 1, 0, 1), ("show", 0), ("show", 1))),))
        session = Session(program, NOTHING)
        session.call(0)
        session.mark()
        for _ in range(3):
            session.feed(0)
            self.assertEqual(session.record()[1], [6, 1])
            session.back(0)
        session.feed(0)
        session.call(0)
        session.mark()
        for _ in range(3):
            session.feed(0)
            self.assertEqual(session.record()[1], [6, 1, 6, 2])
            self.assertEqual(session.record(), history_run(program, session.history(), NOTHING))
            session.back(1)

    def test_equal_sessions(self):
        one, other = Session(WAITING, NOTHING), Session(WAITING, NOTHING)
        self.assertIs(one == other, True)
        self.assertIs(one != other, False)
        one.mark()
        self.assertIs(one == other, True)
        one.call(0)
        self.assertIs(one == other, False)
        other.call(0)
        self.assertIs(one == other, True)
        one.feed(5)
        self.assertIs(one == other, False)
        other.feed(6)
        self.assertIs(one == other, False)
        one.back(0)
        self.assertIs(one == Session(WAITING, NOTHING), True)
        one.call(0)
        one.feed(6)
        self.assertIs(one == other, True)
        # Inputs that were fed before the call or behind it make the same history.
        other = Session(WAITING, NOTHING)
        other.feed(6)
        other.call(0)
        self.assertIs(one == other, True)

    def test_sessions_of_other_programs_and_plans(self):
        for one, other in [
            (Session(WAITING, NOTHING), Session(SESSION, NOTHING)), (Session(WAITING, NOTHING), Session(WAITING, ([1], [], []))),
            (Session(WAITING, ([1, 0], [], [])), Session(WAITING, ([0, 1], [], []))),
            (Session(WAITING, ([], [], [(0, 0, 1)])), Session(WAITING, NOTHING)),
        ]:
            self.assertIs(one == other, False)
            self.assertIs(one != other, True)
            self.assertIs(one == one, True)
        self.assertIs(Session(WAITING, ([1], [], [(0, 0, 1)])) == Session(WAITING, ([1], [], [(0, 0, 1)])), True)

    def test_what_is_no_session(self):
        session = Session(WAITING, NOTHING)
        for other in [None, 0, "", ([], []), WAITING, session.history(), [session], Session, object()]:
            self.assertIs(session == other, False)
            self.assertIs(session != other, True)

    def test_what_was_told_stays_and_may_be_changed(self):
        session = Session(LIBRARY, ([], [], [(1, 1, 1)]))
        session.call(0)
        session.feed(4)
        found = everything(session)
        kept = copy.deepcopy(found)
        session.mark()
        for told in [*session.history(), *[part for part in session.record() if isinstance(part, (list, dict))], session.record()[2][0]]:
            told.clear()
        self.assertEqual((everything(session), found), (kept, kept))
        session.call(1)
        session.back(0)
        self.assertEqual((everything(session), found), (kept, kept))
        parts = [part for record in (session.record(), session.record()) for part in [*record, *record[2]]]
        self.assertEqual(len({id(part) for part in parts}), len(parts))

    def test_lists_handed_in_stay_and_may_be_changed(self):
        plan = ([1], [(("function", 0), 0)], [(0, 0, 1)])
        kept = copy.deepcopy(plan)
        session = Session(LIBRARY, plan)
        session.call(0)
        self.assertEqual(plan, kept)
        for part in plan:
            part.clear()
        session.call(1)
        self.assertEqual(session.record(), history_run(LIBRARY, ([0, 1], []), kept))
        other = Session(LIBRARY, kept)
        other.call(0)
        other.call(1)
        self.assertIs(session == other, True)

    def test_a_refused_call_changes_nothing(self):
        session = Session(WAITING, NOTHING)
        session.call(0)
        before = everything(session)
        for error, call in [(NoMove, lambda: session.call(0)), (NoFunction, lambda: session.call(2)), (NoNumber, lambda: session.feed(-1)),
                            (NoNumber, lambda: session.back(0))]:
            self.assertRaises(error, call)
            self.assertEqual(everything(session), before)
        self.assertEqual(session.mark(), 0)


class Errors(unittest.TestCase):
    def test_of_the_constructor(self):
        for program in NO_PROGRAMS:
            self.assertRaises(NoProgram, Session, program, None)
        for plan in [*OTHER_KINDS, ([2], [], []), ([], [(("function", 0), 2)], []), ([], [], [(0, 0, 2)]), ([0, 0], [], []),
                     [[], [], []], ([], []), ([True], [], []), ((), (), ())]:
            self.assertRaises(NoPlan, Session, LIBRARY, plan)

    def test_of_the_methods(self):
        session = Session(WAITING, NOTHING)
        for wrong in NO_INDEXES:
            self.assertRaises(NoFunction, session.call, wrong)
            self.assertRaises(NoNumber, session.feed, wrong)
            self.assertRaises(NoNumber, session.back, wrong)
        self.assertRaises(NoFunction, session.call, 2)
        self.assertRaises(NoNumber, session.feed, 65536)
        session.call(0)
        for wrong in NO_INDEXES:
            self.assertRaises(NoFunction, session.call, wrong)


if __name__ == "__main__":
    unittest.main()
