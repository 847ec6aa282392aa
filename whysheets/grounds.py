"""The least dear inputs that alone fix a worth."""

from whysheets.boxes import points_of, want_prices, whole_of
from whysheets.orders import subsets
from whysheets.tables import Table
from whysheets.wanting import sound_frame, want_cell_spot, want_point


def cheapest_grounds(sheet, point, spot, prices):
    """The least sum of prices of names that ground a spot at a point, and the least tuple of names with it."""
    frame = sound_frame(sheet)
    want_point(frame, point)
    want_cell_spot(frame, spot)
    want_prices(frame, prices)
    table = Table(frame, (spot,))
    lots = parting_names(table, point, whole_of(frame))
    # Inputs that do not lead to the spot would be paid for in vain.
    found = []
    for names in subsets(table.steps.names):
        if all([any([name in lot for name in names]) for lot in lots]):
            found.append((sum([prices[name] for name in names]), names))
    return min(found)


def parting_names(table, point, box):
    """The list, each once, of the tuples of names in which points with another worth differ from a point."""
    names = table.steps.names
    worth = table.worths_at(point)
    found = {}
    for other in points_of({name: box[name] for name in names}):
        if table.worths_at(other) != worth:
            found[tuple([name for name in names if other[name] != point[name]])] = True
    return list(found)
