"""Which wishes a point grants, and the least dear way to where all are granted."""

from whysheets.boxes import points_of, want_box, want_prices
from whysheets.claiming import dear
from whysheets.granting import Granting, indexes_in
from whysheets.moving import way_between
from whysheets.turning import want_wishes
from whysheets.wanting import sound_frame, want_point


def granted(sheet, point, wishes):
    """The ascending tuple of the indexes of the wishes that a point grants."""
    frame = sound_frame(sheet)
    want_point(frame, point)
    want_wishes(frame, wishes)
    return indexes_in(Granting(frame, wishes).lot_at(point))


def repair(sheet, point, box, prices, wishes):
    """The least price of a way to a point of a box that grants all wishes, and the least such way; None for no way."""
    frame = sound_frame(sheet)
    want_point(frame, point)
    want_box(frame, box)
    want_prices(frame, prices)
    want_wishes(frame, wishes)
    granting = Granting(frame, wishes)
    found = None
    for other in points_of(box):
        if granting.lot_at(other) == granting.full:
            price = dear(point, prices, other)
            if found is None or price <= found[0]:
                here = (price, way_between(point, other))
                found = here if found is None else min(here, found)
    return found
