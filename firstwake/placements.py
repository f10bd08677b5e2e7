"""Cheapest places for the checks of a unit in a function, with the walks that show why nothing is cheaper."""

from firstwake.errors import NoFunction, NoPlaces, NoPrices
from firstwake.programs import CHECKED_WORDS, accessed_unit, need_program, need_unit
from firstwake.values import is_index, is_integer, is_number, is_tuple


def placement(program, function, unit, prices):
    """Return (price, places, walks) of a cheapest placement of the unit in the function."""
    _need_parts(program, function, unit)
    code = program[1][function][1]
    _need_prices(code, prices)
    ways = _ways(program, code, unit)
    targets = _targets(program, code, unit)
    rooms = _rooms(ways, targets, prices)
    left = _filled(rooms)
    walks = _walks(rooms, left)
    return sum([number for _, number in walks]), _needed(ways, targets, _full_places(left)), walks


def is_placement(program, function, unit, thing):
    """Tell whether thing is a placement of the unit in the function."""
    _need_parts(program, function, unit)
    code = program[1][function][1]
    if not _are_places(code, thing):
        return False
    return _are_guarded(_ways(program, code, unit), _targets(program, code, unit), thing)


def are_walks(program, function, unit, prices, thing):
    """Tell whether thing is a list of pairs (walk, number) that together keep to the prices."""
    _need_parts(program, function, unit)
    code = program[1][function][1]
    _need_prices(code, prices)
    ways = _ways(program, code, unit)
    targets = _targets(program, code, unit)
    if not (isinstance(thing, list) and all([_is_weighed_walk(ways, targets, member) for member in thing])):
        return False
    sums = [sum([number for walk, number in thing if place in walk]) for place in range(len(code))]
    return all([sums[place] <= prices[place] for place in range(len(code))])


def placed(program, function, unit, places):
    """Return the plan that checks the unit at the places of the function, and not at its accesses there."""
    _need_parts(program, function, unit)
    code = program[1][function][1]
    if not _are_places(code, places):
        raise NoPlaces("this is no ascending list of different places")
    unchecked = [(("function", function), place) for place in _targets(program, code, unit)]
    return [], unchecked, [(function, place, unit) for place in places]


def _need_parts(program, function, unit):
    need_program(program)
    if not is_index(function, len(program[1])):
        raise NoFunction("this is no function of the program")
    need_unit(program, unit)


def _need_prices(code, prices):
    if not (isinstance(prices, list) and len(prices) == len(code) and all([is_number(price) for price in prices])):
        raise NoPrices("these are no prices for the function")


def _are_places(code, thing):
    """Tell whether thing is an ascending list of different places of the code, the end apart."""
    if not (isinstance(thing, list) and all([is_index(place, len(code)) for place in thing])):
        return False
    return all([thing[at] < thing[at + 1] for at in range(len(thing) - 1)])


def _targets(program, code, unit):
    """Return the ascending list of the places of accesses of the unit that are not of a "wake"."""
    return [
        place for place, instruction in enumerate(code)
        if instruction[0] in CHECKED_WORDS and accessed_unit(program, instruction) == unit
    ]


def _ways(program, code, unit):
    """Return a list with, for each place, the list of the places that a walk may go on to, the end apart."""
    ways = [_followings(instruction, place, unit) for place, instruction in enumerate(code)]
    return [[place for place in followings if place < len(code)] for followings in ways]


def _followings(instruction, place, unit):
    word = instruction[0]
    if word == "fail":
        return []
    if word == "branch":
        return [place + 1, instruction[1]]
    if word == "wake":
        # Behind its own "wake" the unit needs no check, unless it is broken: then the execution goes on at k.
        return [instruction[2]] if instruction[1] == unit else [place + 1, instruction[2]]
    return [place + 1]


def _are_guarded(ways, targets, places):
    """Tell whether each walk from place 0 to a target comes to one of the places."""
    unguarded = _reached_without(ways, places)
    return not any([place in unguarded for place in targets])


def _needed(ways, targets, places):
    """Return the places of a cheapest placement without those, free ones, that it does not need."""
    needed = places
    for place in places:
        others = [other for other in needed if other != place]
        if _are_guarded(ways, targets, others):
            needed = others
    return needed


def _reached_without(ways, barred):
    """Return a dict of the places that walks from place 0 come to without coming to one of those barred."""
    reached = {}
    found = [0]
    while found:
        place = found.pop()
        if place not in reached and place not in barred:
            reached[place] = True
            found.extend(ways[place])
    return reached


def _is_weighed_walk(ways, targets, thing):
    """Tell whether thing is a pair of a walk from place 0 to a target and an integer from 1 on."""
    if not (is_tuple(thing, 2) and is_integer(thing[1]) and thing[1] >= 1):
        return False
    walk = thing[0]
    if not (isinstance(walk, list) and all([is_index(place, len(ways)) for place in walk])):
        return False
    if len(walk) == 0 or walk[0] != 0 or walk[-1] not in targets:
        return False
    return all([walk[at + 1] in ways[walk[at]] for at in range(len(walk) - 1)])


# Each place is a pipe from knot 2 * place to knot 2 * place + 1, as wide as its price; the last knot is the drain.
# What flows from knot 0 to the drain is made of walks, and the full pipes that part them are a cheapest placement.


def _rooms(ways, targets, prices):
    """Return a list with, for each knot, the list of what may flow from it to each knot."""
    many = 2 * len(prices) + 1
    wide = sum(prices) + 1
    rooms = [[0] * many for _ in range(many)]
    for place, price in enumerate(prices):
        rooms[2 * place][2 * place + 1] = price
        for following in ways[place]:
            rooms[2 * place + 1][2 * following] = wide
    for place in targets:
        rooms[2 * place + 1][many - 1] = wide
    return rooms


def _filled(rooms):
    """Return the room that is left, also for flowing back, when as much as can flows from knot 0 to the drain."""
    left = [list(row) for row in rooms]
    route = _route(left)
    while route:
        number = _narrowest(left, route)
        for one, other in route:
            left[one][other] -= number
            left[other][one] += number
        route = _route(left)
    return left


def _walks(rooms, left):
    """Return the list of pairs (walk, number) that the flow is made of."""
    flow = [[max(0, room - left[one][other]) for other, room in enumerate(row)] for one, row in enumerate(rooms)]
    walks = []
    route = _route(flow)
    while route:
        number = _narrowest(flow, route)
        for one, other in route:
            flow[one][other] -= number
        walks.append(([one // 2 for one, _ in route if one % 2 == 0], number))
        route = _route(flow)
    return walks


def _full_places(left):
    """Return the ascending list of the places whose full pipes part the drain from knot 0."""
    reached = _befores(left)
    return [place for place in range(len(left) // 2) if 2 * place in reached and 2 * place + 1 not in reached]


def _narrowest(rooms, route):
    return min([rooms[one][other] for one, other in route])


def _route(rooms):
    """Return a shortest way with room from knot 0 to the drain, as a list of pairs of knots; [] if there is none."""
    befores = _befores(rooms)
    knot = len(rooms) - 1
    route = []
    while knot in befores and befores[knot] is not None:
        route.append((befores[knot], knot))
        knot = befores[knot]
    return route[::-1]


def _befores(rooms):
    """Return a dict from each knot that room leads to from knot 0 to the one before it, None for knot 0."""
    befores = {0: None}
    found = [0]
    at = 0
    while at < len(found):
        knot = found[at]
        for other, room in enumerate(rooms[knot]):
            if room > 0 and other not in befores:
                befores[other] = knot
                found.append(other)
        at += 1
    return befores
