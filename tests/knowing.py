"""Forks by their rests, told once more on tables of worths, and all small forks of an order."""

from itertools import product

from tests.making import Maker, order_points, worth_table
from whysheets.forks import fork_from

BITS = tuple((name, 0, 1) for name in "xyz")


def rests_of(order, table):
    """How many different rests a table of worths has at each depth."""
    points = order_points(order)
    found = []
    for depth in range(len(order) + 1):
        rests = {}
        for numbers in points:
            rests.setdefault(numbers[:depth], []).append(table[numbers])
        found.append(len({tuple(worths) for worths in rests.values()}))
    return tuple(found)


def bound_of(order, rests):
    """The bound of lessons."""
    sizes = [high - low + 1 for _, low, high in order]
    if not order:
        return 1
    return sum(rests[k - 1] * sizes[k - 1] * (rests[k] - 1) for k in range(1, len(order))) + rests[-2] * sizes[-1]


def more_of(rests):
    """By how many ways a learner comes to the rests."""
    return sum(rest - 1 for rest in rests[1:-1])


def is_no_larger(one, other):
    return all(a <= b for a, b in zip(one, other))


class Alternatives:
    """All tables of worths over an order with a few worths, with their rests."""

    def __init__(self, order, worths):
        self.order = order
        self.points = order_points(order)
        self.all = []
        for row in product(worths, repeat=len(self.points)):
            table = dict(zip(self.points, row))
            self.all.append((table, rests_of(order, table)))

    def fitting(self, told, rests):
        """The tables that give all of the answers and have no more rests."""
        return [table for table, own in self.all if is_no_larger(own, rests) and all(table[point] == worth for point, worth in told.items())]


def numbers_of(order, point):
    return tuple(point[name] for name, _, _ in order)


def made_fork(seed, names=4, widest=3):
    maker = Maker(seed * 7919 + 13)
    order = tuple((name, low, low + maker.number(0, widest - 1)) for name, low in zip(maker.shuffled("stuvw")[:maker.number(0, names)], (-1, 0, 2, -3, 1)))
    worths = maker.worths(order) if maker.chance(2) else [maker.one_of((0, 1, None)) for _ in order_points(order)]
    fork = fork_from(order, worths)
    return maker, order, fork, worth_table(fork)
