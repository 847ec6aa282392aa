"""Wishes that cannot be granted together, and what can be given up so that the others are."""

from math import factorial, gcd

from whysheets.boxes import points_of, want_box
from whysheets.errors import BadLimit
from whysheets.granting import Granting, are_indexes, bits_of, has_index, indexes_in, want_indexes
from whysheets.granting import want_weights, weight_of
from whysheets.turning import want_wishes
from whysheets.values import is_list, is_number_from
from whysheets.wanting import sound_frame

GREATEST_LIMIT = 999


class Quarrelling:
    """Some wishes, and the lots of them that points of a box grant."""

    def __init__(self, frame, box, wishes):
        self.granting = Granting(frame, wishes)
        self.count = len(wishes)
        self.met = self.granting.lots_over(box)

    def does_quarrel(self, lot):
        """Whether no point grants all wishes of a lot."""
        return all([(one & lot) != lot for one in self.met])

    def makes_peace(self, lot):
        """Whether some point grants all wishes but those of a lot."""
        return any([(one | lot) == self.granting.full for one in self.met])

    def least_quarrels(self):
        """The ascending list of the indexes of all least quarrels."""
        return self.least_ones([self.does_quarrel(lot) for lot in self.granting.all_lots()])

    def least_peaces(self):
        """The ascending list of the indexes of all least peaces."""
        return self.least_ones([self.makes_peace(lot) for lot in self.granting.all_lots()])

    def least_ones(self, is_one):
        """The ascending list of the least ones, given for each lot whether it is one."""
        found = []
        # What has more wishes stays one, so a lot without one of its wishes tells enough.
        for lot in self.granting.all_lots():
            if is_one[lot] and not any([is_one[lot - (1 << k)] for k in indexes_in(lot)]):
                found.append(indexes_in(lot))
        return sorted(found)

    def fewest_unmet(self, lot):
        """How many wishes of a lot must be given up if these alone are wished."""
        return min([len(indexes_in(lot & ~one)) for one in self.met])


def quarrelling_of(sheet, box, wishes):
    """The quarrelling of wishes over a box; BadSheet, Faulty, BadBox, BadWishes."""
    frame = sound_frame(sheet)
    want_box(frame, box)
    want_wishes(frame, wishes)
    return Quarrelling(frame, box, wishes)


def is_quarrel(sheet, box, wishes, thing):
    """Whether any value is indexes of wishes that no point of a box grants together."""
    told = quarrelling_of(sheet, box, wishes)
    return are_indexes(thing, told.count) and told.does_quarrel(bits_of(thing))


def is_peace(sheet, box, wishes, thing):
    """Whether any value is indexes such that some point of a box grants all other wishes."""
    told = quarrelling_of(sheet, box, wishes)
    return are_indexes(thing, told.count) and told.makes_peace(bits_of(thing))


def quarrels(sheet, box, wishes):
    """The ascending list of all least quarrels."""
    return quarrelling_of(sheet, box, wishes).least_quarrels()


def peaces(sheet, box, wishes):
    """The ascending list of all least peaces."""
    return quarrelling_of(sheet, box, wishes).least_peaces()


def quarrel_within(sheet, box, wishes, indexes):
    """What is left of a quarrel when, from the last index on, all are taken out that it does not need."""
    told = quarrelling_of(sheet, box, wishes)
    want_indexes(indexes, told.count)
    return left_within([told.does_quarrel(lot) for lot in told.granting.all_lots()], indexes)


def peace_within(sheet, box, wishes, indexes):
    """What is left of a peace when, from the last index on, all are taken out that it does not need."""
    told = quarrelling_of(sheet, box, wishes)
    want_indexes(indexes, told.count)
    return left_within([told.makes_peace(lot) for lot in told.granting.all_lots()], indexes)


def left_within(is_one, indexes):
    """What is left of indexes, given for each lot whether it is one; None if they are none."""
    lot = bits_of(indexes)
    if not is_one[lot]:
        return None
    for k in indexes[::-1]:
        if is_one[lot - (1 << k)]:
            lot -= 1 << k
    return indexes_in(lot)


def idle_wishes(sheet, box, wishes):
    """The ascending tuple of the indexes that stand in no least quarrel."""
    told = quarrelling_of(sheet, box, wishes)
    found = told.least_quarrels()
    return tuple([k for k in range(told.count) if not any([k in one for one in found])])


def peace_point(sheet, box, wishes, indexes):
    """The first point of a box at which all wishes but some are granted; None if there is none."""
    told = quarrelling_of(sheet, box, wishes)
    want_indexes(indexes, told.count)
    lot = bits_of(indexes)
    for point in points_of(told.granting.box_that_matters(box)):
        if (told.granting.lot_at(point) | lot) == told.granting.full:
            return point
    return None


def cheapest_peace(sheet, box, wishes, weights):
    """The pair of the least weight of a peace and the least peace that has it."""
    told = quarrelling_of(sheet, box, wishes)
    want_weights(weights, told.count)
    return lightest(told, weights)


def lightest(told, weights):
    """The pair of the least weight of a peace and the least peace that has it."""
    return min([(weight_of(bits_of(one), weights), one) for one in told.least_peaces()])


def bar(sheet, box, wishes, weights):
    """Least quarrels, none idle, such that what meets them all weighs as much as the cheapest peace."""
    told = quarrelling_of(sheet, box, wishes)
    want_weights(weights, told.count)
    limit = lightest(told, weights)[0]
    least = told.least_quarrels()
    left = least
    for one in least[::-1]:
        others = [other for other in left if other != one]
        left = others if does_bar(told, weights, limit, others) else left
    return left


def does_bar(told, weights, limit, quarrels_told):
    """Whether all lots that meet each of some quarrels weigh at least a limit."""
    bits = [bits_of(one) for one in quarrels_told]
    for lot in told.granting.all_lots():
        if weight_of(lot, weights) < limit and all([(lot & one) != 0 for one in bits]):
            return False
    return True


def is_bar(sheet, box, wishes, weights, limit, thing):
    """Whether any value is a list of quarrels such that what meets them all weighs at least a limit."""
    told = quarrelling_of(sheet, box, wishes)
    want_weights(weights, told.count)
    if not is_number_from(limit, 0, GREATEST_LIMIT):
        raise BadLimit("no number from 0 to 999")
    if not is_list(thing):
        return False
    if not all([are_indexes(one, told.count) and told.does_quarrel(bits_of(one)) for one in thing]):
        return False
    return does_bar(told, weights, limit, thing)


def blame(sheet, box, wishes):
    """The dict from all indexes to the fair shares in how many wishes must be given up."""
    told = quarrelling_of(sheet, box, wishes)
    unmet = [told.fewest_unmet(lot) for lot in told.granting.all_lots()]
    return {k: share_of(unmet, told.count, k) for k in range(told.count)}


def share_of(unmet, count, k):
    """The mean, over all orders, of what a wish adds to what those ahead of it must give up."""
    total = 0
    for lot in range(len(unmet)):
        if not has_index(lot, k):
            ahead = len(indexes_in(lot))
            orders = factorial(ahead) * factorial(count - ahead - 1)
            total += orders * (unmet[lot | (1 << k)] - unmet[lot])
    whole = factorial(count)
    common = gcd(total, whole)
    return total // common, whole // common
