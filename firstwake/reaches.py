"""What the waking of a unit may access: reached units, chains to them, and loops."""

from firstwake.programs import accessed_unit, need_program, need_unit


def reach(program, unit):
    """Return the ascending tuple of the units that the waking of the unit may access."""
    need_program(program)
    need_unit(program, unit)
    return tuple(sorted(_befores(program, unit)))


def chain(program, unit, other):
    """Return a shortest list of units from the first to the other, each accessed by the one before, or None."""
    need_program(program)
    need_unit(program, unit)
    need_unit(program, other)
    befores = _befores(program, unit)
    if other not in befores:
        return None
    backwards = [other]
    while backwards[-1] != unit:
        backwards.append(befores[backwards[-1]])
    return backwards[::-1]


def loops(program):
    """Return the ascending tuple of the units that are in a cycle of two or more different units."""
    need_program(program)
    reached = [_befores(program, unit) for unit in range(len(program[0]))]
    return tuple([unit for unit in range(len(reached)) if _is_in_loop(unit, reached)])


def _is_in_loop(unit, reached):
    # Two units that reach each other are in one cycle, perhaps with others between them.
    return any([other != unit and unit in reached[other] for other in reached[unit]])


def _befores(program, unit):
    """Return a dict from each reached unit to the one before it on a shortest chain, None for the first."""
    befores = {unit: None}
    found = [unit]
    at = 0
    while at < len(found):
        for other in _accessed_in_waking(program, found[at]):
            if other not in befores:
                befores[other] = found[at]
                found.append(other)
        at += 1
    return befores


def _accessed_in_waking(program, unit):
    """Return the list of the units that waking the unit accesses itself: its parent, then its initializer's."""
    parent, _, initializer = program[0][unit]
    units = [] if parent is None else [parent]
    for instruction in initializer:
        # What stands behind a "fail" never takes place.
        if instruction[0] == "fail":
            break
        other = accessed_unit(program, instruction)
        if other is not None:
            units.append(other)
    return units
