"""Questions that a machine answers of each page of a book, and walls of a page."""

from whysheets.boxes import are_numbers
from whysheets.nodes import size_at
from whysheets.tallies import Tally, are_weights, is_order_point, order_point
from whysheets.values import is_number_from, worth_key

GREATEST_PRICE = 999


def is_machine_question(order, thing):
    """Whether any value is a question that a machine answers."""
    if not isinstance(thing, tuple) or not thing or not isinstance(thing[0], str):
        return False
    if thing[0] == "nearest":
        return len(thing) == 3 and is_order_point(order, thing[1]) and are_prices_from(order, thing[2])
    if len(thing) != 2:
        return False
    if thing[0] == "worth":
        return is_order_point(order, thing[1])
    if thing[0] == "worths":
        return is_order_box(order, thing[1])
    return thing[0] == "count" and are_weights(order, thing[1])


def are_prices_from(order, thing):
    """Whether any value is a dict from all names of an order to numbers from 1 to 999."""
    if not isinstance(thing, dict) or len(thing) != len(order):
        return False
    return all([name in thing and is_number_from(thing[name], 1, GREATEST_PRICE) for name, _, _ in order])


def is_order_box(order, thing):
    """Whether any value is a dict from all names of an order to ascending tuples of numbers of their ranges."""
    if not isinstance(thing, dict) or len(thing) != len(order):
        return False
    return all([name in thing and are_numbers(thing[name], low, high) for name, low, high in order])


class Replies:
    """Answers a question of nodes of a store, each of which is looked at once."""

    def __init__(self, store, question):
        self.store = store
        self.word = question[0]
        self.made = {}
        order = store.order
        if self.word in ("worth", "nearest"):
            self.own = [question[1][name] - low for name, low, _ in order]
        if self.word == "worths":
            self.rows = [[number - low for number in question[1][name]] for name, low, _ in order]
        if self.word == "count":
            self.tally = Tally(store, [question[1][name] for name, _, _ in order])
        if self.word == "nearest":
            self.costs = [question[2][name] for name, _, _ in order]

    def reply(self, number):
        """The answer of the page with a first node."""
        if self.word == "worth":
            return self.worth_there(number)
        if self.word == "worths":
            return tuple(sorted(self.worths_behind(number), key=worth_key))
        if self.word == "count":
            found = self.tally.counts_behind(number, 0)
            return {worth: found[worth] for worth in sorted(found, key=worth_key)}
        found = self.nearest_from(number, 0)
        return {worth: (found[worth][0], order_point(self.store.order, found[worth][1]))
                for worth in sorted(found, key=worth_key)}

    def worth_there(self, number):
        """The worth at the point of the question."""
        for level, at in enumerate(self.own):
            number = self.store.child(number, level, at)
        return self.store.worth_of(number)

    def worths_behind(self, number):
        """The list, each once, of the worths behind a node at the points in the box of the question."""
        if self.store.is_leaf(number):
            return [self.store.worth_of(number)]
        if number not in self.made:
            found = {}
            for at in self.rows[self.store.levels[number]]:
                for worth in self.worths_behind(self.store.bodies[number][at]):
                    found[worth] = True
            self.made[number] = list(found)
        return self.made[number]

    def nearest_from(self, number, level):
        """The dict from the worths behind a node to the least price, from a level on, and the least indexes with it."""
        ahead = tuple(self.own[level:self.store.levels[number]])
        own = self.nearest_behind(number)
        # Where a node does not ask, the point's own numbers are the only ones without a price.
        return {worth: (own[worth][0], ahead + own[worth][1]) for worth in own}

    def nearest_behind(self, number):
        """Likewise, from the node's own level on."""
        if self.store.is_leaf(number):
            return {self.store.worth_of(number): (0, ())}
        if number not in self.made:
            level = self.store.levels[number]
            found = {}
            for at, child in enumerate(self.store.bodies[number]):
                part = self.nearest_from(child, level + 1)
                for worth in part:
                    here = (part[worth][0] + self.costs[level] * abs(at - self.own[level]), (at,) + part[worth][1])
                    found[worth] = min(here, found.get(worth, here))
            self.made[number] = found
        return self.made[number]


def page_shut(store, number, indexes):
    """What is left of all moves at a point when, from the last one on, all are taken out that a wall does not need.

    A wall is told here for the page with a first node.
    """
    order = store.order
    leaf = number
    for level, at in enumerate(indexes):
        leaf = store.child(leaf, level, at)
    rows = [[at] for at in indexes]
    moves = []
    for name, level in sorted([(triple[0], level) for level, triple in enumerate(order)]):
        moves.extend([(name, level, at) for at in range(size_at(order, level)) if at != indexes[level]])
    found = []
    for name, level, at in moves[::-1]:
        wider = [row + [at] if k == level else row for k, row in enumerate(rows)]
        if leads_to(store, number, wider, leaf, {}):
            rows = wider
        else:
            found.append((name, order[level][1] + at))
    return tuple(found[::-1])


def leads_to(store, number, rows, leaf, met):
    """Whether a node leads to one leaf alone at the points of some indexes; met has the nodes met so far."""
    if store.is_leaf(number):
        return number == leaf
    if number not in met:
        met[number] = True
        for at in rows[store.levels[number]]:
            if not leads_to(store, store.bodies[number][at], rows, leaf, met):
                return False
    return True
