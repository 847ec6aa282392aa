"""Working out the worths of a sound sheet at a point."""

from whysheets.frames import has_item, items_of, thing_of
from whysheets.knotting import Knotting, is_ring, ordered
from whysheets.operations import FOLDS, OPERATIONS, folded
from whysheets.values import brought


class Run:
    """The worths of spots, as far as they are worked out, and how they came about."""

    def __init__(self, knotting, known):
        self.frame = knotting.frame
        self.knotting = knotting
        self.known = known
        # For each knot the dict of the spots that its worth looks at.
        self.looks = {}
        # For each ring the list of the tuples of its worths, round by round.
        self.turns = {}


def run_through(frame, point):
    """The run with the worths of all spots at a point."""
    knotting = Knotting(frame)
    run = Run(knotting, {name: point[name] for name in point})
    for knot in ordered(knotting):
        finish(run, knot)
    return run


def finish(run, knot):
    """Works out a knot, for which all that it reads is known."""
    run.looks[knot] = {}
    if is_ring(knot):
        finish_ring(run, knot)
    else:
        run.known[knot] = spot_worth(run, knot)


def spot_worth(run, spot):
    """The worth of a spot that is in no ring."""
    thing = thing_of(run.frame, spot)
    number = spot[1] if thing[0] == "row" else None
    found = work(run, thing[-1], number, run.looks[spot])
    return brought(found, thing[2], thing[3]) if thing[0] == "settle" else found


def finish_ring(run, ring):
    """Works out the rounds of a ring, and the worths of its cells."""
    looks = run.looks[ring]
    begin = [work(run, thing_of(run.frame, cell)[4], None, looks) for cell in ring]
    turns = [brought_all(run, ring, begin)]
    met = {turns[0]: True}
    while True:
        hold_all(run, ring, turns[-1])
        worths = [work(run, thing_of(run.frame, cell)[5], None, looks) for cell in ring]
        found = brought_all(run, ring, worths)
        if found == turns[-1]:
            break
        turns.append(found)
        if found in met:
            hold_all(run, ring, [None for _ in ring])
            break
        met[found] = True
    run.turns[ring] = turns


def brought_all(run, ring, worths):
    """The tuple of the worths of a ring's cells, each brought within the range of its cell."""
    found = []
    for k, cell in enumerate(ring):
        thing = thing_of(run.frame, cell)
        found.append(brought(worths[k], thing[2], thing[3]))
    return tuple(found)


def hold_all(run, ring, worths):
    """Takes worths as known for the cells of a ring."""
    for k, cell in enumerate(ring):
        run.known[cell] = worths[k]


def settles(run, ring):
    """Whether the rounds of a ring ended with one that changed nothing."""
    turns = run.turns[ring]
    return turns.index(turns[-1]) == len(turns) - 1


def work(run, expression, number, looks):
    """The worth of an expression at work for the item of a number; looks gets the spots looked at."""
    word = expression[0]
    if word == "number":
        return expression[1]
    if word == "place":
        return number
    if word == "name":
        return looked(run, expression[1], looks)
    if word == "item":
        return looked(run, (expression[1], expression[2]), looks)
    if word in FOLDS:
        return folded(word, [looked(run, spot, looks) for spot in items_of(run.frame, expression[1])])
    if word in OPERATIONS:
        one = work(run, expression[1], number, looks)
        other = work(run, expression[2], number, looks)
        operation = OPERATIONS[word]
        return None if one is None or other is None else operation(one, other)
    return work_first(run, expression, number, looks)


def looked(run, spot, looks):
    """The known worth of a spot, which is looked at."""
    looks[spot] = True
    return run.known[spot]


def work_first(run, expression, number, looks):
    """The worth of an expression whose first part or place tells what else is worked out."""
    word = expression[0]
    if word == "at":
        spot = (expression[1], number + expression[2])
        if has_item(run.frame, spot[0], spot[1]):
            return looked(run, spot, looks)
        return work(run, expression[3], number, looks)
    first = work(run, expression[1], number, looks)
    if first is None:
        return None
    if word == "not":
        return 1 - first
    # What is decided by the first part alone needs no other one.
    if (word == "and" and first == 0) or (word == "or" and first == 1):
        return first
    return work(run, chosen_part(expression, first), number, looks)


def chosen_part(expression, first):
    """The part of an and, an or, a choose or a cases that the worth of its first part chooses."""
    if expression[0] == "choose":
        return expression[2] if first == 1 else expression[3]
    if expression[0] == "cases":
        for number, part in expression[2]:
            if number == first:
                return part
        return expression[3]
    return expression[2]
