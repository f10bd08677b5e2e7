"""Programs, plans and inputs that are drawn: different ones for different seeds, the same ones for equal seeds."""

import random

SHARED = ["number", "copy", "add", "read", "read", "read", "write", "write", "write"]
CALLING = SHARED + ["input", "show", "branch", "branch", "call", "call", "wake", "wake", "wake"]


def drawn_program(*seed, most_units=5, instructions=4, most_functions=3):
    """Return a program with up to two units that fail; the unit of function 0 is none of these."""
    dice = random.Random(repr(seed))
    many = dice.randint(1, most_units)
    fields = [dice.choice([0, 1, 1, 2]) for _ in range(many)]
    first = dice.randrange(many)
    failing = [unit for unit in range(many) if unit != first and dice.random() < 0.25][:2]
    units = []
    for unit in range(many):
        parent = dice.randrange(unit) if unit and dice.random() < 0.3 else None
        words = [dice.choice(SHARED) for _ in range(dice.randint(0, min(instructions, 5)))]
        if unit in failing:
            words.insert(dice.randint(0, len(words)), "fail")
        units.append((parent, fields[unit], tuple(filled(dice, word, fields) for word in words)))
    functions = dice.randint(1, most_functions)
    codes = [drawn_code(dice, own, functions, fields, failing, instructions) for own in range(functions)]
    owners = [first] + [dice.randrange(many) for _ in range(functions - 1)]
    return (tuple(units), tuple(zip(owners, codes)))


def filled(dice, word, fields):
    """Return an instruction with the word that both kinds of bodies may have, a "number" if there is no field."""
    having = [unit for unit, many in enumerate(fields) if many]
    if word in ("read", "write") and not having:
        word = "number"
    if word in ("number", "add"):
        return (word, dice.randrange(3), dice.choice([0, 1, 7, 65535, dice.randrange(65536)]))
    if word == "copy":
        return (word, dice.randrange(3), dice.randrange(3))
    if word == "fail":
        return (word,)
    unit = dice.choice(having)
    field, slot = dice.randrange(fields[unit]), dice.randrange(3)
    return (word, slot, unit, field) if word == "read" else (word, unit, field, slot)


def drawn_code(dice, own, functions, fields, failing, instructions):
    many = dice.randint(1, instructions + 2)
    code = []
    for place in range(many):
        word = "fail" if dice.random() < 0.03 else dice.choice(CALLING)
        if word == "call" and own + 1 == functions:
            word = "wake"
        woken = dice.choice(failing) if failing and dice.random() < 0.6 else dice.randrange(len(fields))
        code.append({
            "input": lambda: ("input", dice.randrange(3)),
            "show": lambda: ("show", dice.randrange(3)),
            "branch": lambda: ("branch", dice.randint(0, many)),
            "call": lambda: ("call", dice.randint(own + 1, functions - 1)),
            "wake": lambda: ("wake", woken, dice.randint(place + 1, many)),
        }.get(word, lambda: filled(dice, word, fields))())
    return tuple(code)


def drawn_plan(program, *seed):
    dice = random.Random(repr(seed))
    units, functions = program
    ahead = dice.sample(range(len(units)), min(len(units), dice.choice([0, 0, 0, 1, 1, 2])))
    spots = [
        ((kind, number), place)
        for kind, bodies in (("unit", units), ("function", functions)) for number, body in enumerate(bodies)
        for place, instruction in enumerate(body[-1]) if instruction[0] in ("read", "write", "call")
    ]
    unchecked = dice.sample(spots, dice.randint(0, len(spots)) if dice.random() < 0.6 else 0)
    everything = [
        (function, place, unit) for unit in range(len(units))
        for function, (_, code) in enumerate(functions) for place in range(len(code))
    ]
    extra = dice.sample(everything, min(len(everything), dice.choice([0, 0, 1, 2, 3, 8])))
    return (ahead, unchecked, extra)


def drawn_inputs(*seed):
    dice = random.Random(repr(seed))
    return [dice.choice([0, 0, 1, 2, 65535]) for _ in range(dice.choice([0, 1, 2, 3, 5, 8]))]


def drawn_locking(*seed, most_units=4, most_functions=3):
    """Return a small program whose units often use one another, so that threads get into each other's way."""
    dice = random.Random(repr(seed))
    many = dice.randint(2, most_units)
    units = []
    for unit in range(many):
        parent = dice.randrange(unit) if unit and dice.random() < 0.3 else None
        code = [dice.choice([
            ("read", dice.randrange(3), dice.randrange(many), 0), ("write", dice.randrange(many), 0, dice.randrange(3)),
            ("number", 0, dice.randrange(9)),
        ]) for _ in range(dice.choice([0, 1, 1, 2]))]
        if unit and dice.random() < 0.15:
            code.insert(dice.randint(0, len(code)), ("fail",))
        units.append((parent, 1, tuple(code)))
    functions = []
    count = dice.randint(1, most_functions)
    for own in range(count):
        length = dice.randint(1, 3)
        code = [dice.choice([
            ("read", dice.randrange(3), dice.randrange(many), 0), ("write", dice.randrange(many), 0, dice.randrange(3)),
            ("wake", dice.randrange(many), dice.randint(place + 1, length)), ("branch", dice.randint(0, length)),
            ("call", dice.randint(own + 1, count - 1)) if own + 1 < count else ("show", dice.randrange(3)),
            ("input", dice.randrange(3)), ("show", dice.randrange(3)), ("read", 0, dice.randrange(many), 0),
        ]) for place in range(length)]
        functions.append((dice.randrange(many), tuple(code)))
    return tuple(units), tuple(functions)
