"""Books: the forks of several spots over one order."""

from whysheets.forks import is_fork, is_order
from whysheets.frames import spot_key
from whysheets.making import all_numbers, want_order
from whysheets.nodes import Store, put_together, written
from whysheets.tables import Table
from whysheets.values import is_number_from, is_rising, is_tuple_of
from whysheets.wanting import sound_frame
from whysheets.words import is_name

MOST_PAGES = 400


def is_book(thing):
    """Whether any value is a book."""
    if not is_tuple_of(thing, 3) or not isinstance(thing[0], str) or thing[0] != "book" or not is_order(thing[1]):
        return False
    pages = thing[2]
    if not isinstance(pages, tuple) or not all([is_tuple_of(page, 2) for page in pages]):
        return False
    if not are_spots([page[0] for page in pages]):
        return False
    return all([is_fork(page[1]) and page[1][1] == thing[1] for page in pages])


def are_spots(things):
    """Whether a list has 1 to 400 different spots of pages, names ahead of pairs, both ascending."""
    if not 1 <= len(things) <= MOST_PAGES or not all([is_page_spot(one) for one in things]):
        return False
    return is_rising([spot_key(one) for one in things])


def is_page_spot(thing):
    """Whether any value is a name or a pair of a name and a number from 1 to 9."""
    return is_name(thing) or is_tuple_of(thing, 2) and is_name(thing[0]) and is_number_from(thing[1], 1, 9)


def book_of(sheet, order):
    """The book with a page for each spot of a cell."""
    frame = sound_frame(sheet)
    want_order(frame, order)
    inputs = [thing[1] for thing in sheet[1]]
    spots = [spot for spot in frame.spots if spot not in inputs]
    table = Table(frame, tuple(spots))
    levels = [level for level, triple in enumerate(order) if triple[0] in table.steps.names]
    worths = []
    for numbers in all_numbers([list(range(order[level][1], order[level][2] + 1)) for level in levels]):
        worths.append(table.worths_at({order[level][0]: numbers[k] for k, level in enumerate(levels)}))
    pages = []
    for k, spot in enumerate(spots):
        store = Store(order)
        first = put_together(store, levels, [store.leaf(row[k]) for row in worths])
        pages.append((spot, written(store, first, order)))
    return ("book", order, tuple(pages))
