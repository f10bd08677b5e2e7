"""Programs, inputs and plans: what is one, and where a program accesses its units."""

from firstwake.errors import NoProgram, NoUnit
from firstwake.values import MOST_NUMBER, are_different, is_index, is_integer, is_number, is_tuple, is_within

MOST_UNITS = 6
MOST_FIELDS = 3
MOST_FUNCTIONS = 4
MOST_IN_INITIALIZER = 6
MOST_IN_FUNCTION = 8
MOST_INPUTS = 100
LAST_SLOT = 2
CHECKED_WORDS = ("read", "write", "call")

# The kinds of the operands behind each word; a "field" is one of the unit just before it.
FORMS = {
    "number": ("slot", "number"),
    "copy": ("slot", "slot"),
    "add": ("slot", "number"),
    "read": ("slot", "unit", "field"),
    "write": ("unit", "field", "slot"),
    "fail": (),
}
FORMS_IN_FUNCTIONS = {
    "input": ("slot",),
    "show": ("slot",),
    "branch": ("place",),
    "call": ("later function",),
    "wake": ("unit", "later place"),
}


def is_program(thing):
    """Tell whether thing is a program."""
    if not is_tuple(thing, 2):
        return False
    units, functions = thing
    if not (_are_units(units) and _are_functions(functions, len(units))):
        return False
    fields = [unit[1] for unit in units]
    initializers = [_is_initializer(unit[2], fields) for unit in units]
    codes = [_is_code(function[1], own, len(functions), fields) for own, function in enumerate(functions)]
    return all(initializers) and all(codes)


def is_inputs(thing):
    """Tell whether thing is a list of inputs."""
    return isinstance(thing, list) and len(thing) <= MOST_INPUTS and all([is_number(member) for member in thing])


def is_plan(program, thing):
    """Tell whether thing is a plan of the program."""
    need_program(program)
    if not is_tuple(thing, 3):
        return False
    ahead, unchecked, extra = thing
    return is_order(program, ahead) and are_unchecked(program, unchecked) and _are_extra(program, extra)


def accesses(program):
    """Return the ascending list of all accesses (body, place) of the program."""
    need_program(program)
    return _spots_where(program, CHECKED_WORDS + ("wake",))


def need_program(program):
    """Raise NoProgram if program is none."""
    if not is_program(program):
        raise NoProgram("this is no program")


def need_unit(program, unit):
    """Raise NoUnit if unit is no unit of the program."""
    if not is_index(unit, len(program[0])):
        raise NoUnit("this is no unit of the program")


def accessed_unit(program, instruction):
    """Return the unit that the instruction accesses, None if it is no access."""
    word = instruction[0]
    if word == "read":
        return instruction[2]
    if word in ("write", "wake"):
        return instruction[1]
    if word == "call":
        return program[1][instruction[1]][0]
    return None


def is_order(program, thing):
    """Tell whether thing is a list of different units of the program."""
    if not isinstance(thing, list):
        return False
    many = len(program[0])
    return all([is_index(member, many) for member in thing]) and are_different(thing)


def are_unchecked(program, thing):
    """Tell whether thing is a list of different accesses of the program, none of them a "wake"."""
    if not isinstance(thing, list):
        return False
    allowed = checked_accesses(program)
    return all([_is_spot(member) and member in allowed for member in thing]) and are_different(thing)


def checked_accesses(program):
    """Return the ascending list of all accesses (body, place) that are not of a "wake"."""
    return _spots_where(program, CHECKED_WORDS)


def is_access(program, body, place):
    """Tell whether there is an access at the place of the body."""
    return _is_spot((body, place)) and (body, place) in _spots_where(program, CHECKED_WORDS + ("wake",))


def is_read(program, body, place):
    """Tell whether there is a "read" at the place of the body."""
    return _is_spot((body, place)) and (body, place) in _spots_where(program, ("read",))


def _is_spot(thing):
    """Tell whether thing is built like (body, place), with integers for its two numbers."""
    # True equals 1 within tuples, too: without this test True would pass for a place or a unit.
    return is_tuple(thing, 2) and is_tuple(thing[0], 2) and is_integer(thing[0][1]) and is_integer(thing[1])


def _are_extra(program, thing):
    """Tell whether thing is a list of different extra accesses (function, place, unit)."""
    if not isinstance(thing, list):
        return False
    return all([_is_extra(program, member) for member in thing]) and are_different(thing)


def _is_extra(program, thing):
    if not is_tuple(thing, 3):
        return False
    units, functions = program
    function, place, unit = thing
    if not is_index(function, len(functions)):
        return False
    return is_index(place, len(functions[function][1])) and is_index(unit, len(units))


def _spots_where(program, words):
    """Return the ascending list of (body, place) for all instructions with one of these words."""
    return [
        (body, place)
        for body, code in _bodies(program)
        for place, instruction in enumerate(code)
        if instruction[0] in words
    ]


def _bodies(program):
    """Return the list of (body, its instructions), ascending by the names of the bodies."""
    units, functions = program
    codes = [(("function", number), function[1]) for number, function in enumerate(functions)]
    return codes + [(("unit", number), unit[2]) for number, unit in enumerate(units)]


def _are_units(thing):
    """Tell whether thing is a tuple of units, whatever they have as initializers."""
    if not (isinstance(thing, tuple) and 1 <= len(thing) <= MOST_UNITS):
        return False
    return all([_is_unit(member, number) for number, member in enumerate(thing)])


def _is_unit(thing, number):
    if not is_tuple(thing, 3):
        return False
    parent, fields, _ = thing
    return (parent is None or is_index(parent, number)) and is_within(fields, 0, MOST_FIELDS)


def _are_functions(thing, units):
    """Tell whether thing is a tuple of functions of so many units, whatever they have as bodies."""
    if not (isinstance(thing, tuple) and 1 <= len(thing) <= MOST_FUNCTIONS):
        return False
    return all([is_tuple(member, 2) and is_index(member[0], units) for member in thing])


def _is_initializer(thing, fields):
    """Tell whether thing is an initializer, fields being the list of the units' numbers of fields."""
    if not (isinstance(thing, tuple) and len(thing) <= MOST_IN_INITIALIZER):
        return False
    limits = _shared_limits(fields)
    return all([_is_instruction(member, False, limits, fields) for member in thing])


def _is_code(thing, own, functions, fields):
    """Tell whether thing is the body of function number own, of so many functions."""
    if not (isinstance(thing, tuple) and 1 <= len(thing) <= MOST_IN_FUNCTION):
        return False
    limits = _shared_limits(fields)
    limits["place"] = (0, len(thing))
    limits["later function"] = (own + 1, functions - 1)
    for place, member in enumerate(thing):
        limits["later place"] = (place + 1, len(thing))
        if not _is_instruction(member, True, limits, fields):
            return False
    return True


def _shared_limits(fields):
    """Return the least and the greatest operand of each kind that initializers have, but for fields."""
    return {"slot": (0, LAST_SLOT), "number": (0, MOST_NUMBER), "unit": (0, len(fields) - 1)}


def _is_instruction(thing, in_function, limits, fields):
    if not (isinstance(thing, tuple) and len(thing) > 0 and isinstance(thing[0], str)):
        return False
    kinds = _kinds(thing[0], in_function)
    if kinds is None or len(thing) != len(kinds) + 1:
        return False
    for at, kind in enumerate(kinds):
        # The operand of this kind is thing[at + 1], so thing[at] is the unit that a field belongs to.
        low, high = (0, fields[thing[at]] - 1) if kind == "field" else limits[kind]
        if not is_within(thing[at + 1], low, high):
            return False
    return True


def _kinds(word, in_function):
    """Return the kinds of operands that the word has in such a body, None if it is no word there."""
    if word in FORMS:
        return FORMS[word]
    if in_function and word in FORMS_IN_FUNCTIONS:
        return FORMS_IN_FUNCTIONS[word]
    return None
