"""Working out the stretches of a sound sheet over a box."""

from whysheets.frames import has_item, items_of, thing_of
from whysheets.knotting import Knotting, is_ring, ordered
from whysheets.operations import FOLDS, OPERATIONS
from whysheets.values import brought

OPEN = (None, None, True)
NO = (0, 0, False)
YES = (1, 1, False)
# Behind so many rounds the stretches of a ring are widened.
ROUNDS = 8


class Spread:
    """The stretches of spots, as far as they are worked out, and how they came about."""

    def __init__(self, knotting, known):
        self.frame = knotting.frame
        self.knotting = knotting
        self.known = known
        # For each ring the list of the tuples of its stretches, round by round.
        self.turns = {}


def spread_over(frame, box):
    """The spread with the stretches of all spots over a box."""
    knotting = Knotting(frame)
    spread = Spread(knotting, input_stretches(box))
    for knot in ordered(knotting):
        finish_spread(spread, knot)
    return spread


def input_stretches(box):
    """The dict from all inputs to their stretches over a box."""
    return {name: (box[name][0], box[name][-1], False) for name in box}


def finish_spread(spread, knot):
    """Works out a knot, for which all that it reads is known."""
    if is_ring(knot):
        finish_ring(spread, knot)
    else:
        spread.known[knot] = spot_stretch(spread, knot)


def spot_stretch(spread, spot):
    """The stretch of a spot that is in no ring."""
    thing = thing_of(spread.frame, spot)
    number = spot[1] if thing[0] == "row" else None
    found = span(spread, thing[-1], number)
    return brought_within(found, thing) if thing[0] == "settle" else found


def finish_ring(spread, ring):
    """Works out the rounds of a ring, and the stretches of its cells."""
    cells = [thing_of(spread.frame, cell) for cell in ring]
    turns = [tuple([brought_within(span(spread, thing[4], None), thing) for thing in cells])]
    for _ in range(ROUNDS):
        turns.append(next_turn(spread, ring, turns[-1]))
    while True:
        behind = next_turn(spread, ring, turns[-1])
        wider = tuple([hull_of([one, behind[k]]) for k, one in enumerate(turns[-1])])
        if wider == turns[-1]:
            break
        turns.append(wider)
    spread.turns[ring] = turns
    are_sure = all([is_single(one) for one in turns[-1]])
    for k, (low, high, may) in enumerate(turns[-1]):
        spread.known[ring[k]] = (low, high, may if are_sure else True)


def next_turn(spread, ring, turn):
    """The stretches that a round gives for the cells of a ring, from those of the round before."""
    for k, cell in enumerate(ring):
        spread.known[cell] = turn[k]
    cells = [thing_of(spread.frame, cell) for cell in ring]
    return tuple([brought_within(span(spread, thing[5], None), thing) for thing in cells])


def brought_within(found, thing):
    """A stretch with its numbers brought within the range of a settling cell."""
    return (brought(found[0], thing[2], thing[3]), brought(found[1], thing[2], thing[3]), found[2])


def span(spread, expression, number):
    """The stretch of an expression at work for the item of a number."""
    word = expression[0]
    if word == "number":
        return (expression[1], expression[1], False)
    if word == "place":
        return (number, number, False)
    if word == "name":
        return spread.known[expression[1]]
    if word == "item":
        return spread.known[(expression[1], expression[2])]
    if word == "at":
        spot = (expression[1], number + expression[2])
        if has_item(spread.frame, spot[0], spot[1]):
            return spread.known[spot]
        return span(spread, expression[3], number)
    if word in FOLDS:
        return span_of_row(word, [spread.known[spot] for spot in items_of(spread.frame, expression[1])])
    first = span(spread, expression[1], number)
    if word in OPERATIONS:
        return span_of_two(word, first, span(spread, expression[2], number))
    if word == "not":
        return first if first[0] is None else (1 - first[1], 1 - first[0], first[2])
    return hull_of(open_if_may(first) + choices(spread, expression, number, first))


def open_if_may(first):
    """What an open first part adds to the stretches that it chooses."""
    return [OPEN] if first[2] else []


def choices(spread, expression, number, first):
    """The list of the stretches of what the numbers of the first part choose."""
    word = expression[0]
    if word == "cases":
        return case_choices(spread, expression, number, first)
    found = []
    if allows_worth(first, 1):
        found.append(YES if word == "or" else span(spread, expression[2], number))
    if allows_worth(first, 0):
        if word == "and":
            found.append(NO)
        else:
            found.append(span(spread, expression[-1], number))
    return found


def case_choices(spread, expression, number, first):
    """The list of the stretches of the parts of a cases that its first part chooses."""
    found = []
    for case, part in expression[2]:
        if allows_worth(first, case):
            found.append(span(spread, part, number))
    # Numbers of pairs are different, so fewer of them than allowed ones leave one out.
    if first[0] is not None and len(found) < first[1] - first[0] + 1:
        found.append(span(spread, expression[3], number))
    return found


def span_of_row(word, spans):
    """The stretch of what is told of all items of a row."""
    total = spans[0]
    for one in spans[1:]:
        total = span_of_two(FOLDS[word], total, one)
    return total


def span_of_two(word, one, other):
    """The stretch of an expression with two parts that are always worked out."""
    may = one[2] or other[2]
    if one[0] is None or other[0] is None:
        return (None, None, may)
    if word in BOUNDS:
        bounds = BOUNDS[word]
        low, high = bounds(one[0], one[1], other[0], other[1])
    else:
        # Least and greatest grow with both parts.
        operation = OPERATIONS[word]
        low, high = operation(one[0], other[0]), operation(one[1], other[1])
    return (low, high, may)


def minus_bounds(a, b, c, d):
    """The bounds of a difference."""
    return a - d, b - c


def times_bounds(a, b, c, d):
    """The bounds of a product."""
    ends = (a * c, a * d, b * c, b * d)
    return min(ends), max(ends)


def less_bounds(a, b, c, d):
    """The bounds of a less."""
    return truth_bounds(b < c, a >= d)


def atmost_bounds(a, b, c, d):
    """The bounds of an atmost."""
    return truth_bounds(b <= c, a > d)


def same_bounds(a, b, c, d):
    """The bounds of a same."""
    return truth_bounds(a == b == c == d, b < c or d < a)


def truth_bounds(is_sure, is_never):
    """The bounds of a truth that holds surely, never, or perhaps."""
    if is_sure:
        return 1, 1
    return (0, 0) if is_never else (0, 1)


BOUNDS = {
    "minus": minus_bounds, "times": times_bounds,
    "less": less_bounds, "atmost": atmost_bounds, "same": same_bounds,
}


def allows_worth(stretch, worth):
    """Whether a stretch allows a number, or None."""
    if worth is None:
        return stretch[2]
    return stretch[0] is not None and stretch[0] <= worth <= stretch[1]


def is_single(stretch):
    """Whether a stretch allows one worth alone."""
    return stretch[0] is None or (stretch[0] == stretch[1] and not stretch[2])


def hull_of(stretches):
    """The stretch within all that all of one or more stretches are within."""
    may = any([one[2] for one in stretches])
    lows = [one[0] for one in stretches if one[0] is not None]
    highs = [one[1] for one in stretches if one[1] is not None]
    return (min(lows), max(highs), may) if lows else (None, None, may)
