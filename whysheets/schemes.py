"""Schemes: which questions to ask, answer by answer, until a spot's worth is known."""

from whysheets.boxes import want_box, want_prices
from whysheets.errors import BadPoint
from whysheets.questioning import answer_at, answers_of, box_behind, question_price, want_sides
from whysheets.scheming import Known, is_scheme_over, want_scheme
from whysheets.wanting import is_point, sound_frame, want_cell_spot


def is_scheme(sheet, box, spot, thing):
    """Whether any value is a scheme for a spot over a box."""
    return is_scheme_over(known_over(sheet, box, spot), box, True, thing)


def known_over(sheet, box, spot):
    """What judges papers of a spot; BadSheet, Faulty, BadBox, BadSpot."""
    frame = sound_frame(sheet)
    want_box(frame, box)
    want_cell_spot(frame, spot)
    return Known(frame, spot)


def trail(sheet, box, spot, scheme, point):
    """The tuple of the pairs of question and answer that come at a point."""
    known = known_over(sheet, box, spot)
    want_scheme(known, box, True, scheme)
    if not is_point(known.frame.sheet[1], point) or not all([point[name] in box[name] for name in box]):
        raise BadPoint("no point in the box")
    found = []
    here = scheme
    while here[0] == "ask":
        answer = answer_at(here[1], point)
        found.append((here[1], answer))
        at = answers_of(box, here[1]).index(answer)
        box = box_behind(box, here[1], answer)
        here = here[2][at]
    return tuple(found)


def worst_price(sheet, box, spot, prices, sides, scheme):
    """The greatest price of a scheme at the points in a box."""
    known = known_over(sheet, box, spot)
    want_prices(known.frame, prices)
    want_sides(known.frame, sides)
    want_scheme(known, box, sides is not None, scheme)
    return worst_of(scheme, prices, sides)


def worst_of(scheme, prices, sides):
    """The greatest price of a trail through a scheme."""
    if scheme[0] == "known":
        return 0
    own = question_price(scheme[1], prices, sides)
    return own + max([worst_of(part, prices, sides) for part in scheme[2]])
