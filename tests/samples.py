"""Programs that several tests use, and ways to change a part of a value."""

from firstwake.plain import full_run

# The least program there is: one unit without anything, one function with one instruction.
LEAST = (((None, 0, ()),), ((0, (("input", 0),)),))

# A program with all numbers of parts at their greatest, and with every kind of instruction.
GREATEST = (
    (
        (None, 3, (("number", 0, 65535), ("copy", 1, 2), ("add", 2, 0), ("read", 0, 5, 2), ("write", 0, 2, 1), ("fail",))),
        (0, 0, ()),
        (1, 1, (("read", 2, 2, 0),)),
        (None, 2, (("write", 4, 0, 0), ("fail",), ("write", 5, 1, 2))),
        (3, 1, ()),
        (0, 3, (("add", 1, 65535),)),
    ),
    (
        (5, (("number", 2, 0), ("copy", 0, 0), ("add", 0, 1), ("read", 1, 3, 1),
             ("write", 4, 0, 1), ("input", 0), ("show", 2), ("fail",))),
        (0, (("branch", 0), ("branch", 4), ("call", 3), ("wake", 1, 4))),
        (3, (("wake", 2, 1), ("call", 3), ("read", 0, 0, 0))),
        (1, (("input", 2),)),
    ),
)

# The programs of the document's examples, with the plans and the inputs that stand there.
RUN = (
    ((None, 0, ()), (None, 1, (("number", 0, 7), ("write", 1, 0, 0))), (None, 1, (("read", 0, 1, 0), ("write", 2, 0, 0)))),
    ((0, (("read", 0, 1, 0), ("read", 0, 2, 0), ("show", 0))),),
)
BROKEN = (((None, 0, ()), (None, 1, (("fail",),))), ((0, (("branch", 2), ("read", 0, 1, 0))),))
PLACED = (((None, 0, ()), (None, 1, ())), ((0, (("branch", 2), ("read", 0, 1, 0), ("read", 0, 1, 0))),))
WOKEN = (
    ((None, 0, ()), (None, 1, ()), (None, 0, (("write", 1, 0, 0),)), (None, 0, (("read", 0, 1, 0),))),
    ((0, (("write", 1, 0, 0), ("wake", 2, 2), ("wake", 3, 3))),),
)
LOCKED = (
    ((None, 0, ()), (None, 1, (("read", 0, 2, 0),)), (None, 1, (("read", 0, 1, 0),))),
    ((0, (("read", 0, 1, 0),)), (0, (("read", 0, 2, 0),))),
)
LIBRARY = (
    ((None, 0, ()), (None, 1, (("number", 0, 7), ("write", 1, 0, 0)))),
    ((0, (("read", 0, 1, 0), ("call", 1))), (0, (("read", 0, 1, 0), ("show", 0)))),
)
SESSION = (((None, 0, ()),), ((0, (("input", 0), ("show", 0))),))
EXAMPLES = [RUN, BROKEN, PLACED, WOKEN, LOCKED, LIBRARY, SESSION]

NO_PROGRAMS = [
    None, True, 0, 5, 10 ** 20, "", "program", (), [], {}, ((), ()), (LEAST,), list(LEAST), LEAST + ((),),
    (LEAST[0], ()), ((), LEAST[1]), (LEAST[0] * 7, LEAST[1]), (LEAST[0], LEAST[1] * 5),
    (((0, 0, ()),), LEAST[1]), (((None, 4, ()),), LEAST[1]), (LEAST[0], ((1, (("input", 0),)),)),
    (LEAST[0], ((0, ()),)), (LEAST[0], ((0, (("input", 3),)),)), (LEAST[0], ((False, (("input", 0),)),)),
]

OTHER_KINDS = [
    None, True, False, -1, 10 ** 20, -10 ** 20, "", "x", "a" * 1000, b"", [], {}, (), [0], [[]], (0,), ((),),
    ((), ()), (None, None), ((((((((((),),),),),),),),),), {"read": 0}, {(): ()}, [("fail",)], (("fail",),),
]


def nodes(thing, path=()):
    """Yield (path, part) for thing and all parts of its tuples and lists."""
    yield path, thing
    if isinstance(thing, (tuple, list)):
        for at, part in enumerate(thing):
            yield from nodes(part, path + (at,))


def replaced(thing, path, part):
    """Return thing with another part at the path."""
    if not path:
        return part
    at = path[0]
    changed = list(thing)
    changed[at] = replaced(thing[at], path[1:], part)
    return changed if isinstance(thing, list) else tuple(changed)


def units_with(initializer):
    """Return a program whose unit 1 has this initializer, its units having 1, 2, 0 and 3 fields."""
    return (((None, 1, ()), (None, 2, initializer), (0, 0, ()), (2, 3, ())), ((0, (("show", 0),)),))


def functions_with(body, number=1):
    """Return a program whose function with this number, of four, has this body; its units are as above."""
    codes = [(0, (("show", 0),))] * 4
    codes[number] = (2, body)
    return (units_with(())[0], tuple(codes))


def one_function(units, *code):
    """Return a program with these units and one function, of unit 0, with this code."""
    return (tuple(units), ((0, code),))


# The first unit of most of these programs, to which function 0 belongs.
FIRST = (None, 0, ())


def records(program, inputs=(), plan=((), (), ())):
    """Return what full_run returns as a dict."""
    names = ["end", "output", "path", "seen", "own", "order", "finds"]
    return dict(zip(names, full_run(program, list(inputs), tuple(map(list, plan))), strict=True))


def nested_calls(*codes):
    """Return a program of one unit whose functions have these codes, each given as a list of (instruction, times)."""
    return ((FIRST,), tuple((0, tuple(one for one, times in code for _ in range(times))) for code in codes))


SHOW = ("show", 0)
# Programs that go straight on through 2000 and 2001 configurations.
JUST_FEW = nested_calls([(("call", 1), 8)], [(("call", 2), 4), (("call", 3), 3)], [(("call", 3), 8)], [(SHOW, 6)])
TOO_MANY = nested_calls([(("call", 1), 5), (SHOW, 1)], [(("call", 2), 7)], [(("call", 3), 8)], [(SHOW, 6)])
