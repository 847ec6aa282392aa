"""Papers for claims, or points that break them; the shortest papers of cuts."""

from whysheets.boxes import points_of, want_box
from whysheets.claiming import case_of, want_claim
from whysheets.errors import TooMany
from whysheets.searching import breaking_point, paper_over
from whysheets.tables import Table
from whysheets.values import worth_key
from whysheets.wanting import sound_frame, want_spot

MOST_BOXES = 3000


def find(sheet, box, claim):
    """A right paper for a claim over a box, or the least point in the box that breaks it."""
    case = case_over(sheet, box, claim)
    point = breaking_point(case, box)
    return ("paper", paper_over(case, box)) if point is None else ("point", point)


def case_over(sheet, box, claim):
    """The case of a claim over a box."""
    frame = sound_frame(sheet)
    want_box(frame, box)
    want_claim(frame, claim)
    return case_of(frame, claim)


def worths_over(sheet, box, spot):
    """The list of the pairs of each worth that a spot has in a box and the least point at which it has it."""
    frame = sound_frame(sheet)
    want_box(frame, box)
    want_spot(frame, spot)
    table = Table(frame, (spot,))
    found = {}
    for point in points_of({name: box[name] if name in table.steps.names else box[name][:1] for name in box}):
        worth = table.worths_at(point)[0]
        if worth not in found:
            found[worth] = point
    return [(worth, found[worth]) for worth in sorted(found, key=worth_key)]


def fewest(sheet, box, claim):
    """The least number of leaves of a right paper whose splits are cuts; None if a point breaks the claim."""
    cutting = cutting_of(sheet, box, claim)
    return None if cutting is None else cutting.leaves(cutting.all_numbers())


def shortest(sheet, box, claim):
    """A right paper whose splits are cuts with the fewest leaves; None if a point breaks the claim."""
    cutting = cutting_of(sheet, box, claim)
    return None if cutting is None else cutting.paper(cutting.all_numbers())


def cutting_of(sheet, box, claim):
    """The cutting of a box for a claim; None if a point breaks the claim."""
    case = case_over(sheet, box, claim)
    many = 1
    for name in box:
        many = many * len(box[name]) * (len(box[name]) + 1) // 2
    if many > MOST_BOXES:
        raise TooMany(MOST_BOXES)
    return Cutting(case, box) if breaking_point(case, box) is None else None


class Cutting:
    """The fewest leaves of papers of cuts for a claim, over all boxes that cuts lead to.

    Boxes are told by their rows: the tuple of their tuples of numbers, inputs ascending.
    """

    def __init__(self, case, box):
        self.case = case
        self.whole = box
        self.names = sorted(box)
        # For each box the fewest leaves, and a word, or the index of an input and how many numbers the first part has.
        self.made = {}

    def all_numbers(self):
        """The rows of the whole box."""
        return tuple([self.whole[name] for name in self.names])

    def leaves(self, rows):
        """The fewest leaves of a right paper for a box."""
        if rows not in self.made:
            self.made[rows] = self.best(rows)
        return self.made[rows][0]

    def best(self, rows):
        """The fewest leaves for a box, and how a paper with so many begins."""
        box = {name: rows[k] for k, name in enumerate(self.names)}
        for word in ("bounds", "far", "point"):
            if self.case.is_right_leaf(word, box):
                return 1, word, 0
        found = None
        for k, row in enumerate(rows):
            for many in range(1, len(row)):
                one, other = cut_at(rows, k, many)
                count = self.leaves(one) + self.leaves(other)
                if found is None or count < found[0]:
                    found = (count, k, many)
        return found

    def paper(self, rows):
        """A right paper for a box with the fewest leaves."""
        self.leaves(rows)
        _, k, many = self.made[rows]
        if isinstance(k, str):
            return (k,)
        one, other = cut_at(rows, k, many)
        return ("split", self.names[k], ((one[k], self.paper(one)), (other[k], self.paper(other))))


def cut_at(rows, k, many):
    """The rows of the two boxes of a cut behind so many numbers of an input."""
    return rows[:k] + (rows[k][:many],) + rows[k + 1:], rows[:k] + (rows[k][many:],) + rows[k + 1:]
