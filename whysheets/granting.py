"""Which of some wishes are granted together, with lots of wishes told as numbers whose bits are their indexes."""

from whysheets.boxes import points_of
from whysheets.claiming import is_granted
from whysheets.errors import BadIndexes, BadWeights
from whysheets.tables import Table
from whysheets.values import is_number_from, is_rising, is_tuple_of

GREATEST_WEIGHT = 99


class Granting:
    """Some wishes, and the worths of their spots at points."""

    def __init__(self, frame, wishes):
        self.wishes = tuple(wishes)
        self.table = Table(frame, tuple([wish[0] for wish in wishes]))
        self.full = (1 << len(wishes)) - 1

    def lot_at(self, point):
        """The lot of the wishes that a point grants."""
        worths = self.table.worths_at(point)
        return sum([1 << k for k, wish in enumerate(self.wishes) if is_granted(wish, worths[k])])

    def box_that_matters(self, box):
        """The box with the least numbers alone of the inputs that lead to none of the wishes."""
        return {name: box[name] if name in self.table.steps.names else box[name][:1] for name in box}

    def lots_over(self, box):
        """The list, each once, of the lots that are granted at the points of a box."""
        found = {}
        for point in points_of(self.box_that_matters(box)):
            found[self.lot_at(point)] = True
        return list(found)

    def unmet_in(self, box):
        """The lot of the wishes that no point of a box grants."""
        met = 0
        for lot in self.lots_over(box):
            met = met | lot
        return self.full & ~met

    def all_lots(self):
        """The list of all lots of wishes."""
        return list(range(self.full + 1))


def bits_of(indexes):
    """The lot of some indexes."""
    return sum([1 << k for k in indexes])


def indexes_in(lot):
    """The ascending tuple of the indexes of a lot."""
    return tuple([k for k in range(lot.bit_length()) if has_index(lot, k)])


def has_index(lot, k):
    """Whether a lot has an index."""
    return (lot >> k) & 1 == 1


def weight_of(lot, weights):
    """The sum of the weights of a lot's indexes."""
    return sum([weights[k] for k in indexes_in(lot)])


def are_indexes(thing, count):
    """Whether any value is an ascending tuple of different indexes of so many wishes."""
    if not isinstance(thing, tuple) or not all([is_number_from(k, 0, count - 1) for k in thing]):
        return False
    return is_rising(thing)


def want_indexes(thing, count):
    """Raises BadIndexes for what are no indexes of so many wishes."""
    if not are_indexes(thing, count):
        raise BadIndexes("no ascending tuple of different indexes")


def want_weights(thing, count):
    """Raises BadWeights for what is no tuple of numbers from 1 to 99, one for each of so many wishes."""
    if not is_tuple_of(thing, count) or not all([is_number_from(one, 1, GREATEST_WEIGHT) for one in thing]):
        raise BadWeights("no tuple of a weight for each wish")
