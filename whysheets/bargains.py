"""How much must be paid to give up how little."""

from whysheets.boxes import points_of, want_box, want_prices, with_number
from whysheets.claiming import case_of, dear, least_dear
from whysheets.errors import BadBargains, BadLimit
from whysheets.granting import Granting, are_indexes, indexes_in, want_weights, weight_of
from whysheets.judge import first_wrong
from whysheets.moving import is_lot_at, is_way, point_behind, price_of, way_between
from whysheets.papering import DEEPEST, are_part_numbers, has_paper_form, is_right_split, part_boxes
from whysheets.searching import paper_over
from whysheets.turning import want_wishes
from whysheets.values import is_list, is_number, is_number_from, is_tuple_of
from whysheets.wanting import sound_frame, want_point

GREATEST_LIMIT = 1000000000


class Dealing:
    """A point, a box, prices, wishes and their weights."""

    def __init__(self, frame, point, box, prices, wishes, weights):
        self.frame = frame
        self.begin = point
        self.goal = box
        self.prices = prices
        self.weights = weights
        self.granting = Granting(frame, wishes)
        # For each wish the claim that no point grants it.
        self.cases = [case_of(frame, ((wish,), None)) for wish in wishes]

    def given_up(self, point):
        """The weight of the wishes that a point does not grant."""
        return weight_of(self.granting.full & ~self.granting.lot_at(point), self.weights)

    def bargains(self):
        """The list of the triples of price, weight and way of which nothing is better, prices ascending."""
        known = {}
        for other in points_of(self.goal):
            key = (dear(self.begin, self.prices, other), self.given_up(other))
            way = way_between(self.begin, other)
            known[key] = min(way, known.get(key, way))
        found = []
        for price, weight in sorted(known):
            if not found or weight < found[-1][1]:
                found.append((price, weight, known[(price, weight)]))
        return found

    def least_price(self, box):
        """The least price of a way to a point of a box."""
        return least_dear(self.begin, self.prices, box)

    def is_bargain(self, thing):
        """Whether any value is a triple of the price of a way to the box, the weight that it gives up, and the way."""
        if not is_tuple_of(thing, 3) or not is_number(thing[0]) or not is_number(thing[1]):
            return False
        price, weight, way = thing
        if not is_lot_at(self.frame, self.begin, way) or not is_way(way):
            return False
        other = point_behind(self.begin, way)
        if not all([other[name] in self.goal[name] for name in other]):
            return False
        return price == price_of(self.begin, self.prices, way) and weight == self.given_up(other)

    def front(self, found, box):
        """A front paper for the bargains over a box within the box."""
        price = self.least_price(box)
        # Of what is dear enough the last one asks for the least weight.
        k = len([one for one in found if one[0] <= price]) - 1
        unmet = indexes_in(self.granting.unmet_in(box))
        if sum([self.weights[index] for index in unmet]) >= found[k][1]:
            pairs = tuple([(index, paper_over(self.cases[index], box)) for index in self.needed(unmet, found[k][1])])
            return ("as", k, pairs)
        sizes = {name: len(box[name]) for name in sorted(box)}
        name = [one for one in sizes if sizes[one] == max(list(sizes.values()))][0]
        half = len(box[name]) // 2
        parts = []
        for numbers in (box[name][:half], box[name][half:]):
            parts.append((numbers, self.front(found, with_number(box, name, numbers))))
        return ("split", name, tuple(parts))

    def needed(self, indexes, weight):
        """The first of some indexes, as many as come to a weight."""
        found = []
        total = 0
        for index in indexes:
            if total < weight:
                found.append(index)
                total += self.weights[index]
        return found

    def is_front(self, found, box, thing):
        """Whether any value is a front paper for some bargains over a box."""
        if not is_tuple_of(thing, 3) or not isinstance(thing[0], str):
            return False
        if thing[0] == "as":
            return self.is_end(found, box, thing[1], thing[2])
        if thing[0] != "split" or not isinstance(thing[1], str) or thing[1] not in box:
            return False
        parts = thing[2]
        if not isinstance(parts, tuple) or len(parts) < 2 or not all([is_tuple_of(part, 2) for part in parts]):
            return False
        if not all([are_part_numbers(part[0]) for part in parts]) or not is_right_split(thing[1], parts, box):
            return False
        boxes = part_boxes(box, thing[1], parts)
        return all([self.is_front(found, boxes[k], part[1]) for k, part in enumerate(parts)])

    def is_end(self, found, box, k, pairs):
        """Whether nothing in a box is shown to be better than the bargain of an index."""
        if not is_number_from(k, 0, len(found) - 1) or self.least_price(box) < found[k][0]:
            return False
        if not isinstance(pairs, tuple) or not all([is_tuple_of(pair, 2) for pair in pairs]):
            return False
        if not are_indexes(tuple([pair[0] for pair in pairs]), len(self.cases)):
            return False
        if sum([self.weights[index] for index, _ in pairs]) < found[k][1]:
            return False
        return all([self.is_shown(self.cases[index], box, paper) for index, paper in pairs])

    def is_shown(self, case, box, thing):
        """Whether any value is a right paper for the claim of a case."""
        return has_paper_form(self.frame, thing, DEEPEST) and first_wrong(case, box, thing, ()) is None


def dealing_of(sheet, point, box, prices, wishes, weights):
    """The dealing; BadSheet, Faulty, BadPoint, BadBox, BadPrices, BadWishes, BadWeights."""
    frame = sound_frame(sheet)
    want_point(frame, point)
    want_box(frame, box)
    want_prices(frame, prices)
    want_wishes(frame, wishes)
    want_weights(weights, len(wishes))
    return Dealing(frame, point, box, prices, wishes, weights)


def bargains(sheet, point, box, prices, wishes, weights):
    """The list of the triples of price, weight and way of which nothing is better, prices ascending."""
    return dealing_of(sheet, point, box, prices, wishes, weights).bargains()


def tradeoff(sheet, point, box, prices, wishes, weights, limit):
    """The last one of the bargains whose price is at most a limit; None if there is none."""
    dealing = dealing_of(sheet, point, box, prices, wishes, weights)
    if not is_number_from(limit, 0, GREATEST_LIMIT):
        raise BadLimit("no number from 0 to 10 ** 9")
    found = [one for one in dealing.bargains() if one[0] <= limit]
    return found[-1] if found else None


def front_paper(sheet, point, box, prices, wishes, weights):
    """A front paper for the bargains."""
    dealing = dealing_of(sheet, point, box, prices, wishes, weights)
    return dealing.front(dealing.bargains(), box)


def is_front_paper(sheet, point, box, prices, wishes, weights, found, thing):
    """Whether any value is a front paper for a list of bargains."""
    dealing = dealing_of(sheet, point, box, prices, wishes, weights)
    if not is_list(found) or not all([dealing.is_bargain(one) for one in found]):
        raise BadBargains("no list of bargains")
    return dealing.is_front(found, box, thing)
