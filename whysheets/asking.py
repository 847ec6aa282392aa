"""The price of asking, and schemes that have it."""

from whysheets.boxes import with_number
from whysheets.costing import Asking
from whysheets.questioning import wanted_frame
from whysheets.scheming import Known


def best_scheme(sheet, box, spot, prices, sides):
    """The price of asking for a spot over a box, and a scheme that has it."""
    known = Known(wanted_frame(sheet, box, spot, prices, sides), spot)
    asking = Asking(known.table, box, prices, sides)
    return asking.asking_price(asking.first), scheme_for(known, asking, box, asking.first)


def scheme_for(known, asking, box, number):
    """A scheme with the price of asking for a node over its box."""
    if asking.store.is_leaf(number):
        worth = asking.store.worth_of(number)
        return ("known", worth, known.paper_for(box, worth))
    _, level, many = asking.best(number)
    name = asking.names[level]
    schemes = []
    for k, part in enumerate(asking.parts(number, level, many)):
        schemes.append(scheme_for(known, asking, with_number(box, name, part_numbers(box[name], many, k)), part))
    question = ("number", name) if many == 0 else ("atmost", name, box[name][many - 1])
    return ("ask", question, tuple(schemes))


def part_numbers(numbers, many, k):
    """The numbers behind the answer at an index."""
    if many == 0:
        return (numbers[k],)
    return numbers[:many] if k == 0 else numbers[many:]
