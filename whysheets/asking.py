"""The price of asking, and schemes that have it."""

from whysheets.boxes import want_box, want_prices, with_number
from whysheets.costing import Asking
from whysheets.questioning import want_sides
from whysheets.scheming import Known
from whysheets.wanting import sound_frame, want_cell_spot


def best_scheme(sheet, box, spot, prices, sides):
    """The price of asking for a spot over a box, and a scheme that has it."""
    frame = sound_frame(sheet)
    want_box(frame, box)
    want_cell_spot(frame, spot)
    want_prices(frame, prices)
    want_sides(frame, sides)
    known = Known(frame, spot)
    asking = Asking(known.table, box, prices, sides)
    return asking.asking_price(asking.first), scheme_for(known, asking, box, asking.first)


def scheme_for(known, asking, box, number):
    """A scheme with the price of asking for a node over its box."""
    if asking.store.is_leaf(number):
        worth = asking.store.worth_of(number)
        return ("known", worth, known.paper_for(box, worth))
    _, level, many = asking.best(number)
    name = asking.names[level]
    schemes = []
    for k, part in enumerate(asking.parts(number, level, many)):
        schemes.append(scheme_for(known, asking, with_number(box, name, part_numbers(box[name], many, k)), part))
    question = ("number", name) if many == 0 else ("atmost", name, box[name][many - 1])
    return ("ask", question, tuple(schemes))


def part_numbers(numbers, many, k):
    """The numbers behind the answer at an index."""
    if many == 0:
        return (numbers[k],)
    return numbers[:many] if k == 0 else numbers[many:]
