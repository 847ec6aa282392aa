"""Forks of the spots of sheets."""

from whysheets.boxes import by_name
from whysheets.errors import BadOrder, OtherOrder
from whysheets.forks import is_order
from whysheets.growing import grown_at_spot
from whysheets.nodes import Store, written
from whysheets.tables import Table
from whysheets.wanting import sound_frame, want_spot


def fork_of(sheet, spot, order):
    """The fork of the worth of a spot."""
    frame = sound_frame(sheet)
    want_spot(frame, spot)
    want_order(frame, order)
    store = Store(order)
    rows = [list(range(low, high + 1)) for _, low, high in order]
    return written(store, grown_at_spot(store, Table(frame, (spot,)), rows), order)


def want_order(frame, order):
    """Raises BadOrder for what is no order of a sheet's inputs."""
    if not is_order(order) or sorted(order) != triples_of(frame):
        raise BadOrder("no order of the sheet's inputs")


def triples_of(frame):
    """The ascending list of the inputs, as triples of an order."""
    return sorted([thing[1:] for thing in frame.sheet[1]])


def same_worths(sheet, spot, other, second):
    """The least point at which two spots of sheets with the same inputs differ; None if they never do."""
    frame = sound_frame(sheet)
    want_spot(frame, spot)
    behind = sound_frame(other)
    want_spot(behind, second)
    if triples_of(frame) != triples_of(behind):
        raise OtherOrder("the sheets have different inputs")
    table = Table(frame, (spot,))
    other_table = Table(behind, (second,))
    for point in points_that_matter(frame, table.steps.names + other_table.steps.names):
        if table.worths_at(point) != other_table.worths_at(point):
            return point
    return None


def points_that_matter(frame, names):
    """The ascending list of the points that have the least numbers but for some inputs."""
    inputs = by_name(frame)
    rows = [list(range(low, (high if name in names else low) + 1)) for _, name, low, high in inputs]
    return [{inputs[k][1]: number for k, number in enumerate(numbers)} for numbers in all_numbers(rows)]


def all_numbers(rows):
    """The ascending list of all tuples with a number from each row."""
    found = [()]
    for row in rows:
        found = [numbers + (number,) for numbers in found for number in row]
    return found
