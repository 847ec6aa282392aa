"""Moves at a point, lots of moves, and where ways of them lead."""

from whysheets.boxes import by_name
from whysheets.errors import BadLot
from whysheets.values import is_number_from, is_rising, is_tuple_of


def all_moves(frame, point):
    """The ascending list of all moves at a point."""
    found = []
    for _, name, low, high in by_name(frame):
        found.extend([(name, number) for number in range(low, high + 1) if number != point[name]])
    return found


def is_move(frame, point, thing):
    """Whether any value is a move at a point."""
    if not is_tuple_of(thing, 2) or not isinstance(thing[0], str) or thing[0] not in point:
        return False
    _, _, low, high = frame.things[thing[0]]
    return is_number_from(thing[1], low, high) and thing[1] != point[thing[0]]


def is_lot_at(frame, point, thing):
    """Whether any value is an ascending tuple of different moves at a point."""
    if not isinstance(thing, tuple) or not all([is_move(frame, point, one) for one in thing]):
        return False
    return is_rising(thing)


def want_lot(frame, point, lot):
    """Raises BadLot for what is no lot."""
    if not is_lot_at(frame, point, lot):
        raise BadLot("no ascending tuple of different moves")


def is_way(lot):
    """Whether the moves of a lot are moves of different inputs."""
    return all([lot[k][0] != lot[k + 1][0] for k in range(len(lot) - 1)])


def point_behind(point, way):
    """The point to which a way leads."""
    numbers = {name: number for name, number in way}
    return {name: numbers.get(name, point[name]) for name in sorted(point)}


def way_between(point, other):
    """The way from a point to another one."""
    return tuple([(name, other[name]) for name in sorted(point) if other[name] != point[name]])


def box_without(frame, point, lot):
    """The box of all numbers but those of a lot's moves."""
    found = {}
    for _, name, low, high in by_name(frame):
        found[name] = tuple([number for number in range(low, high + 1) if (name, number) not in lot])
    return found


def price_of(point, prices, lot):
    """The sum of the prices of moves at a point."""
    return sum([prices[name] * abs(number - point[name]) for name, number in lot])
