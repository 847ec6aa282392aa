"""Stretches: between which numbers worths lie over a box, and whether they may be open."""

from whysheets.boxes import want_box
from whysheets.errors import BadStretch, BadStretches, BadWorth
from whysheets.settling import ring_of
from whysheets.stretching import allows_worth, hull_of, span, spread_over
from whysheets.values import is_list, is_number, is_tuple_of, is_worth
from whysheets.wanting import sound_frame, want_expression, want_spot


def is_stretch(thing):
    """Whether any value is a stretch."""
    if not is_tuple_of(thing, 3) or not isinstance(thing[2], bool):
        return False
    low, high, may = thing
    if low is None or high is None:
        return low is None and high is None and may
    return is_number(low) and is_number(high) and low <= high


def allows(stretch, worth):
    """Whether a stretch allows a worth."""
    want_stretch(stretch)
    if not is_worth(worth):
        raise BadWorth("neither a number nor None")
    return allows_worth(stretch, worth)


def is_within(one, other):
    """Whether another stretch allows all that one allows."""
    want_stretch(one)
    want_stretch(other)
    return hull_of([one, other]) == other


def hull(stretches):
    """The stretch within all that all of the stretches are within."""
    if not is_list(stretches) or not stretches or not all([is_stretch(one) for one in stretches]):
        raise BadStretches("no list of one or more stretches")
    return hull_of(stretches)


def stretch(sheet, box, spot):
    """The stretch of a spot over a box."""
    frame = sound_frame(sheet)
    want_box(frame, box)
    want_spot(frame, spot)
    return spread_over(frame, box).known[spot]


def stretches(sheet, box):
    """The dict from all spots to their stretches over a box."""
    frame = sound_frame(sheet)
    want_box(frame, box)
    spread = spread_over(frame, box)
    return {spot: spread.known[spot] for spot in frame.spots}


def expression_stretch(sheet, box, expression):
    """The stretch over a box that the cell of an expression would have."""
    frame = sound_frame(sheet)
    want_box(frame, box)
    want_expression(frame, expression)
    return span(spread_over(frame, box), expression, None)


def ring_stretches(sheet, box, cell):
    """The list of the tuples of stretches of a cell's ring, round by round."""
    frame = sound_frame(sheet)
    want_box(frame, box)
    spread = spread_over(frame, box)
    return spread.turns[ring_of(spread.knotting, cell)]


def want_stretch(thing):
    """Raises BadStretch for what is no stretch."""
    if not is_stretch(thing):
        raise BadStretch("no stretch")
