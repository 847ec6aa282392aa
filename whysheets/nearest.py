"""The least dear turns, and how dear each worth of a spot is."""

from whysheets.boxes import points_of, want_prices, whole_of
from whysheets.claiming import dear
from whysheets.errors import BadMany
from whysheets.moving import all_moves, price_of, want_lot
from whysheets.tables import Table
from whysheets.turning import least_turns, turning_of
from whysheets.values import is_number_from, worth_key
from whysheets.wanting import sound_frame, want_cell_spot, want_point

GREATEST_MANY = 50


def price(sheet, point, prices, lot):
    """The price of a lot of moves."""
    frame = sound_frame(sheet)
    want_point(frame, point)
    want_prices(frame, prices)
    want_lot(frame, point, lot)
    return price_of(point, prices, lot)


def nearest(sheet, point, wishes, prices):
    """The least price of a turn, and the least turn that has it; None if there is no turn."""
    turning = turning_of(sheet, point, wishes)
    want_prices(turning.frame, prices)
    found = priced_turns(turning, prices)
    return found[0] if found else None


def priced_turns(turning, prices):
    """The ascending list of the pairs of the price and the turn of all least turns."""
    turns = least_turns(turning, all_moves(turning.frame, turning.begin))
    return sorted([(price_of(turning.begin, prices, turn), turn) for turn in turns])


def nearest_many(sheet, point, wishes, prices, many):
    """The list of the first pairs, so many, of the price and the turn of least turns."""
    turning = turning_of(sheet, point, wishes)
    want_prices(turning.frame, prices)
    if not is_number_from(many, 1, GREATEST_MANY):
        raise BadMany("no number from 1 to 50")
    return priced_turns(turning, prices)[:many]


def ladder(sheet, spot, point, prices):
    """The list of the pairs of each worth of a spot and the least price of a way to it, the least dear first."""
    frame = sound_frame(sheet)
    want_cell_spot(frame, spot)
    want_point(frame, point)
    want_prices(frame, prices)
    table = Table(frame, (spot,))
    box = whole_of(frame)
    found = {}
    # Other inputs than those that lead to the spot only make ways dearer.
    for other in points_of({name: box[name] if name in table.steps.names else (point[name],) for name in box}):
        worth = table.worths_at(other)[0]
        cost = dear(point, prices, other)
        found[worth] = min(cost, found.get(worth, cost))
    return sorted(list(found.items()), key=lambda pair: (pair[1], worth_key(pair[0])))
