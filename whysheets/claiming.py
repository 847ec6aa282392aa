"""Wishes, prices and claims, and what they come to at points and over boxes."""

from whysheets.boxes import are_prices
from whysheets.errors import BadClaim
from whysheets.frames import is_cell_spot
from whysheets.stretching import allows_worth
from whysheets.tables import SpanTable, Table
from whysheets.values import is_number, is_rising, is_tuple_of, is_worth
from whysheets.wanting import is_point


def are_worths(thing):
    """Whether any value is a tuple of one or more worths, each once, numbers ascending, None behind them."""
    if not isinstance(thing, tuple) or not thing or not all([is_worth(worth) for worth in thing]):
        return False
    numbers = thing[:-1] if thing[-1] is None else thing
    return not any([worth is None for worth in numbers]) and is_rising(numbers)


def is_wish(frame, thing):
    """Whether any value is a wish for a spot of a cell."""
    if not is_tuple_of(thing, 3) or not is_cell_spot(frame, thing[0]):
        return False
    return are_worths(thing[1]) and isinstance(thing[2], bool)


def is_granted(wish, worth):
    """Whether a worth of its spot grants a wish."""
    return (worth in wish[1]) == wish[2]


def denies(stretch, wish):
    """Whether a stretch of its spot allows no worth that grants a wish."""
    met = [worth for worth in wish[1] if allows_worth(stretch, worth)]
    if wish[2]:
        return not met
    low, high, may = stretch
    many = 1 if may else 0
    return len(met) == (many if low is None else many + high - low + 1)


def is_claim(frame, thing):
    """Whether any value is a claim."""
    if not is_tuple_of(thing, 2) or not isinstance(thing[0], tuple) or not thing[0]:
        return False
    if not all([is_wish(frame, wish) for wish in thing[0]]):
        return False
    return thing[1] is None or is_far(frame, thing[1])


def is_far(frame, thing):
    """Whether any value is a triple of a point, prices and a price."""
    if not is_tuple_of(thing, 3) or not is_point(frame.sheet[1], thing[0]):
        return False
    return are_prices(frame.sheet[1], thing[1]) and is_number(thing[2]) and thing[2] >= 0


def want_claim(frame, claim):
    """Raises BadClaim for what is no claim."""
    if not is_claim(frame, claim):
        raise BadClaim("no claim")


def dear(point, prices, other):
    """How dear another point is from a point."""
    return sum([prices[name] * abs(other[name] - point[name]) for name in point])


def least_dear(point, prices, box):
    """How dear the least dear point of a box is from a point."""
    return sum([prices[name] * min([abs(number - point[name]) for number in box[name]]) for name in point])


class Case:
    """A claim with the worths and the stretches of the spots of its wishes."""

    def __init__(self, claim, table, spans):
        self.wishes = claim[0]
        self.far = claim[1]
        self.table = table
        self.spans = spans

    def breaks_at(self, point):
        """Whether a point breaks the claim."""
        if self.far is not None and dear(self.far[0], self.far[1], point) >= self.far[2]:
            return False
        worths = self.table.worths_at(point)
        return all([is_granted(wish, worths[k]) for k, wish in enumerate(self.wishes)])

    def is_right_leaf(self, word, box):
        """Whether a paper of this one word is right over a box."""
        if word == "bounds":
            spans = self.spans.stretches_over(box)
            return any([denies(spans[k], wish) for k, wish in enumerate(self.wishes)])
        if word == "far":
            return self.far is not None and least_dear(self.far[0], self.far[1], box) >= self.far[2]
        if any([len(box[name]) > 1 for name in box]):
            return False
        return not self.breaks_at({name: box[name][0] for name in box})


def case_of(frame, claim):
    """The case of a claim."""
    spots = tuple([wish[0] for wish in claim[0]])
    return Case(claim, Table(frame, spots), SpanTable(frame, spots))
