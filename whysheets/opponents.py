"""Opponents: how to answer so that a worth stays unknown until a price is paid."""

from whysheets.costing import Asking
from whysheets.errors import BadPrice
from whysheets.questioning import all_questions, answers_of, box_behind, question_price, wanted_frame
from whysheets.tables import Table
from whysheets.values import is_number, is_rising, is_tuple_of


def is_opponent(sheet, box, spot, prices, sides, price, thing):
    """Whether any value is an opponent that holds off a price."""
    frame = wanted_frame(sheet, box, spot, prices, sides)
    if not is_number(price) or price < 0:
        raise BadPrice("no number from 0 on")
    table = Table(frame, (spot,))
    if not isinstance(thing, tuple) or not all([is_entry(table, box, entry) for entry in thing]):
        return False
    if not is_rising([entry[0] for entry in thing]):
        return False
    bounds = {entry[0]: entry[1] for entry in thing}
    if not all([does_hold(bounds, sorted(box), entry, prices, sides) for entry in thing]):
        return False
    return price == 0 or bounds.get(rows_of(box), 0) >= price


def rows_of(box):
    """The written box."""
    return tuple([box[name] for name in sorted(box)])


def is_entry(table, box, thing):
    """Whether any value is an entry over a box inside the one passed."""
    if not is_tuple_of(thing, 4) or not is_tuple_of(thing[0], len(box)):
        return False
    rows, bound, one, other = thing
    if not all([are_some(rows[k], box[name]) for k, name in enumerate(sorted(box))]):
        return False
    if not is_number(bound) or bound < 1:
        return False
    for written in (one, other):
        if not is_tuple_of(written, len(rows)) or not all([are_some((written[k],), row) for k, row in enumerate(rows)]):
            return False
    names = sorted(box)
    return table.worths_at(named(names, one)) != table.worths_at(named(names, other))


def named(names, things):
    """The dict from names to the things of a written box or point."""
    return {name: things[k] for k, name in enumerate(names)}


def are_some(thing, numbers):
    """Whether any value is an ascending tuple of one or more of some numbers."""
    if not isinstance(thing, tuple) or not thing or not all([is_number(one) and one in numbers for one in thing]):
        return False
    return is_rising(thing)


def does_hold(bounds, names, entry, prices, sides):
    """Whether each question that costs less than an entry's bound has an answer behind which the bound is held."""
    box = named(names, entry[0])
    for question in all_questions(box, sides is not None):
        left = entry[1] - question_price(question, prices, sides)
        rows = [rows_of(box_behind(box, question, answer)) for answer in answers_of(box, question)]
        if left > 0 and not any([bounds.get(one, 0) >= left for one in rows]):
            return False
    return True


def opponent(sheet, box, spot, prices, sides):
    """An opponent that holds off the price of asking."""
    frame = wanted_frame(sheet, box, spot, prices, sides)
    asking = Asking(Table(frame, (spot,)), box, prices, sides)
    price = asking.asking_price(asking.first)
    return Holding(asking, prices, sides).entries(rows_of(box), price) if price > 0 else ()


class Holding:
    """Finds the boxes that an opponent needs, each with the least bound that is asked of it."""

    def __init__(self, asking, prices, sides):
        self.asking = asking
        self.prices = prices
        self.sides = sides
        # For each count of numbers the dict from written boxes to pairs of a bound and a node.
        self.lots = {}

    def entries(self, rows, price):
        """The entries of an opponent that holds off a price over a written box."""
        self.ask_for(rows, price, self.asking.first)
        found = []
        # Each answer leaves fewer numbers, so what is asked of a box is known when its turn comes.
        for count in range(count_of(rows), 0, -1):
            lot = self.lots.get(count, {})
            for one in sorted(lot):
                bound, number = lot[one]
                found.append((one, bound) + parted(self.asking, number, one))
                self.answer_all(one, bound, number)
        return tuple(sorted(found))

    def ask_for(self, rows, bound, number):
        """Asks for an entry with at least a bound."""
        lot = self.lots.setdefault(count_of(rows), {})
        known = lot.get(rows, (0, number))
        lot[rows] = (max(bound, known[0]), number)

    def answer_all(self, rows, bound, number):
        """Asks for an entry behind the dearest answer of each question that costs less than a bound."""
        box = named(self.asking.names, rows)
        for question in all_questions(box, self.sides is not None):
            left = bound - question_price(question, self.prices, self.sides)
            if left > 0:
                parts = self.asking.behind_all(number, box, question)
                costs = [self.asking.asking_price(part) for part in parts]
                at = costs.index(max(costs))
                answer = answers_of(box, question)[at]
                self.ask_for(rows_of(box_behind(box, question, answer)), left, parts[at])


def count_of(rows):
    """How many numbers a written box has."""
    return sum([len(row) for row in rows])


def parted(asking, number, rows):
    """The pair of two written points of a box with different worths; its node is no leaf."""
    store = asking.store
    first = number
    while not store.is_leaf(first):
        first = store.bodies[first][0]
    other = [row[0] for row in rows]
    while not store.is_leaf(number):
        level = store.levels[number]
        at = [child != first for child in store.bodies[number]].index(True)
        other[level] = rows[level][at]
        number = store.bodies[number][at]
    return tuple([row[0] for row in rows]), tuple(other)
