"""Boxes of points."""

from whysheets.errors import BadBox, BadPrices
from whysheets.values import is_number_from, is_rising
from whysheets.wanting import is_point, sound_frame, want_point


def is_box(sheet, thing):
    """Whether any value is a box of a sheet."""
    frame = sound_frame(sheet)
    return is_box_of(frame.sheet[1], thing)


def whole(sheet):
    """The box of all points of a sheet."""
    return whole_of(sound_frame(sheet))


def whole_of(frame):
    """The box of all points of the sheet of a frame."""
    return {name: tuple(range(low, high + 1)) for _, name, low, high in by_name(frame)}


def box_at(sheet, point):
    """The box of one point alone."""
    frame = sound_frame(sheet)
    want_point(frame, point)
    return {name: (point[name],) for name in sorted(point)}


def points_in(sheet, box):
    """The ascending list of all points in a box."""
    want_box(sound_frame(sheet), box)
    return points_of(box)


def points_of(box):
    """The ascending list of all points in a box."""
    found = [{}]
    for name in sorted(box):
        found = [with_number(point, name, number) for point in found for number in box[name]]
    return found


def is_inside(sheet, one, other):
    """Whether all points in one box are in another."""
    frame = sound_frame(sheet)
    want_box(frame, one)
    want_box(frame, other)
    return all([number in other[name] for name in one for number in one[name]])


def nearest_in(sheet, box, point, prices):
    """The pair of the price and the point of a box that is least dear from a point."""
    frame = sound_frame(sheet)
    want_box(frame, box)
    want_point(frame, point)
    want_prices(frame, prices)
    price = 0
    found = {}
    for name in sorted(box):
        far = [abs(number - point[name]) for number in box[name]]
        # Of two numbers equally far the lesser one comes first.
        found[name] = box[name][far.index(min(far))]
        price += prices[name] * min(far)
    return price, found


def by_name(frame):
    """The list of the inputs, ascending by name."""
    return sorted(frame.sheet[1], key=lambda thing: thing[1])


def with_number(point, name, number):
    """A new point with a number for a further name."""
    made = dict(point)
    made[name] = number
    return made


def want_box(frame, box):
    """Raises BadBox for what is no box."""
    if not is_box_of(frame.sheet[1], box):
        raise BadBox("no box of the sheet")


def is_box_of(inputs, thing):
    """Whether any value is a dict from the names of all inputs to ascending tuples of their numbers."""
    if not isinstance(thing, dict) or len(thing) != len(inputs):
        return False
    return all([name in thing and are_numbers(thing[name], low, high) for _, name, low, high in inputs])


def are_numbers(thing, low, high):
    """Whether any value is an ascending tuple of one or more numbers of a range."""
    if not isinstance(thing, tuple) or not thing:
        return False
    return all([is_number_from(number, low, high) for number in thing]) and is_rising(thing)


def are_prices(inputs, thing):
    """Whether any value is a dict from the names of all inputs to numbers from 1 to 999."""
    return is_point([(one[0], one[1], 1, 999) for one in inputs], thing)


def want_prices(frame, prices):
    """Raises BadPrices for what are no prices."""
    if not are_prices(frame.sheet[1], prices):
        raise BadPrices("no prices of the inputs")
