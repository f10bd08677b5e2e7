"""The examples of the document, word for word."""

import doctest
import unittest

EXAMPLES = '''
>>> from firstwake.plain import run
>>> program = (((None, 0, ()), (None, 1, (("number", 0, 7), ("write", 1, 0, 0))), (None, 1, (("read", 0, 1, 0), ("write", 2, 0, 0)))), ((0, (("read", 0, 1, 0), ("read", 0, 2, 0), ("show", 0))),))
>>> run(program, [])
('done', [7])
>>> from firstwake.plain import full_run
>>> program = (((None, 0, ()), (None, 1, (("number", 0, 7), ("write", 1, 0, 0))), (None, 1, (("read", 0, 1, 0), ("write", 2, 0, 0)))), ((0, (("read", 0, 1, 0), ("read", 0, 2, 0), ("show", 0))),))
>>> full_run(program, [], ([2], [(("unit", 2), 0)], []))[:2]
('done', [0])
>>> from firstwake.checks import status_run
>>> program = (((None, 0, ()), (None, 1, (("fail",),))), ((0, (("branch", 2), ("read", 0, 1, 0))),))
>>> [status_run(program, ("function", 0), 1, "asleep"), status_run(program, ("function", 0), 1, "broken")]
[[0], None]
>>> from firstwake.placements import placement
>>> program = (((None, 0, ()), (None, 1, ())), ((0, (("branch", 2), ("read", 0, 1, 0), ("read", 0, 1, 0))),))
>>> [placement(program, 0, 1, [5, 1, 1])[:2], placement(program, 0, 1, [1, 1, 1])[:2]]
[(2, [1, 2]), (1, [0])]
>>> from firstwake.pairs import judge
>>> program = (((None, 0, ()), (None, 1, (("number", 0, 7), ("write", 1, 0, 0))), (None, 1, (("read", 0, 1, 0), ("write", 2, 0, 0)))), ((0, (("read", 0, 1, 0), ("read", 0, 2, 0), ("show", 0))),))
>>> [judge(program, ([2], [], []))[0], judge(program, ([], [(("unit", 2), 0)], []))[0], judge(program, ([2], [(("unit", 2), 0)], []))]
['unnoticed', 'unnoticed', ('noticed', [])]
>>> from firstwake.pairs import judge, longest
>>> program = (((None, 0, ()), (None, 1, ()), (None, 0, (("write", 1, 0, 0),)), (None, 0, (("read", 0, 1, 0),))), ((0, (("write", 1, 0, 0), ("wake", 2, 2), ("wake", 3, 3))),))
>>> [judge(program, ([2], [], []))[0], judge(program, ([2, 3], [], []))[0], len(longest(program))]
['noticed', 'unnoticed', 4]
>>> from firstwake.schedules import deadlock
>>> program = (((None, 0, ()), (None, 1, (("read", 0, 2, 0),)), (None, 1, (("read", 0, 1, 0),))), ((0, (("read", 0, 1, 0),)), (0, (("read", 0, 2, 0),))))
>>> [deadlock(program, (0, 1), [])[0], deadlock(program, (0, 1), [1])[0], deadlock(program, (0,), [])[0]]
['deadlock', 'never', 'never']
>>> from firstwake.histories import judge_library
>>> from firstwake.pairs import judge
>>> program = (((None, 0, ()), (None, 1, (("number", 0, 7), ("write", 1, 0, 0)))), ((0, (("read", 0, 1, 0), ("call", 1))), (0, (("read", 0, 1, 0), ("show", 0)))))
>>> plan = ([], [(("function", 1), 0)], [])
>>> [judge(program, plan)[0], judge_library(program, plan)]
['unnoticed', ('noticed', ([1], []))]
>>> from firstwake.libraries import Session
>>> program = (((None, 0, ()),), ((0, (("input", 0), ("show", 0))),))
>>> session = Session(program, ([], [], []))
>>> [session.call(0), session.stands(), session.mark(), session.feed(5), session.stands(), session.record()[:2], session.back(0), session.stands(), session.history(), len(session)]
[None, 'waits', 0, None, 'idle', (['done'], [5]), None, 'waits', ([0], []), 1]
>>> from firstwake.guards import guard
>>> program = (((None, 0, ()), (None, 1, (("read", 0, 2, 0),)), (None, 1, (("read", 0, 1, 0),))), ((0, (("read", 0, 1, 0),)), (0, (("read", 0, 2, 0),))))
>>> found = guard(program, (0, 1), [(("unit", 2), 0)], (0, 1, 5))
>>> [found[:2], sorted(found[2]), [len(found[2][key][1]) for key in sorted(found[2])]]
[(1, (0, 1)), [(), (0,)], [4, 2]]
'''


class Examples(unittest.TestCase):
    def test_all(self):
        test = doctest.DocTestParser().get_doctest(EXAMPLES, {}, "examples", None, 0)
        runner = doctest.DocTestRunner()
        self.assertEqual(runner.run(test), (0, EXAMPLES.count(">>>")))


if __name__ == "__main__":
    unittest.main()
