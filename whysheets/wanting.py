"""What functions that want a sound sheet ask of what they are passed."""

from whysheets.errors import BadExpression, BadPoint, BadSheet, BadSpot, Faulty
from whysheets.faults import faults_of
from whysheets.frames import Frame, is_cell_spot, is_spot
from whysheets.kinding import whole_faults
from whysheets.trees import is_sheet, is_whole
from whysheets.values import is_number_from


def sound_frame(sheet):
    """The frame of a sound sheet; BadSheet, Faulty with the first fault."""
    if not is_sheet(sheet):
        raise BadSheet("no sheet")
    frame = Frame(sheet)
    found = faults_of(frame)
    if found:
        raise Faulty(found[0])
    return frame


def want_spot(frame, spot):
    """Raises BadSpot for what is no spot."""
    if not is_spot(frame, spot):
        raise BadSpot("no spot of the sheet")


def want_cell_spot(frame, spot):
    """Raises BadSpot for what is no spot of a cell."""
    if not is_cell_spot(frame, spot):
        raise BadSpot("no spot of a cell")


def want_point(frame, point):
    """Raises BadPoint for what is no point."""
    if not is_point(frame.sheet[1], point):
        raise BadPoint("no point of the sheet")


def want_expression(frame, expression):
    """Raises BadExpression for what could not be the expression of a further cell."""
    if not is_whole(expression, False) or whole_faults(frame, expression, (), None):
        raise BadExpression("no expression that could be a further cell's")


def is_point(inputs, thing):
    """Whether any value is a dict from the names of all inputs to numbers of their ranges."""
    if not isinstance(thing, dict) or len(thing) != len(inputs):
        return False
    for _, name, low, high in inputs:
        if name not in thing or not is_number_from(thing[name], low, high):
            return False
    return True
