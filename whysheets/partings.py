"""Where forks differ, and which names of a fork can be exchanged."""

from whysheets.arranging import Arranging
from whysheets.errors import BadFork, BadName, BadPoint, BadPrices, OtherOrder
from whysheets.forks import is_fork, want_fork
from whysheets.joins import level_of
from whysheets.nodes import Store, size_at, stored
from whysheets.tallies import is_order_point, order_point
from whysheets.values import is_number


def parting(fork, other):
    """The least point at which the worths of two forks differ; None if they never do."""
    want_two(fork, other)
    store = Store(fork[1])
    return parting_in(store, stored(store, fork), stored(store, other))


def want_two(fork, other):
    """Raises BadFork for what is no fork, OtherOrder unless both have the same order."""
    want_fork(fork)
    if not is_fork(other):
        raise BadFork("no fork")
    if fork[1] != other[1]:
        raise OtherOrder("the forks have different orders")


def parting_in(store, one, other):
    """The least point at which the worths of two nodes of a store differ; None if they are the same node."""
    return None if one == other else order_point(store.order, parting_indexes(store, one, other, 0))


def parting_indexes(store, one, other, begin):
    """The least indexes from a level on behind which two different nodes lead to different worths."""
    found = []
    for level in range(begin, len(store.order)):
        at = 0
        while store.child(one, level, at) == store.child(other, level, at):
            at += 1
        found.append(at)
        one = store.child(one, level, at)
        other = store.child(other, level, at)
    return tuple(found)


def nearest_parting(fork, other, point, prices):
    """The price and the least dear point from a point at which the worths of two forks differ."""
    want_two(fork, other)
    if not is_order_point(fork[1], point):
        raise BadPoint("no point of the order")
    if not are_order_prices(fork[1], prices):
        raise BadPrices("no dict from all names to numbers from 1 on")
    store = Store(fork[1])
    one, other = stored(store, fork), stored(store, other)
    if one == other:
        return None
    search = Nearest(store, point, prices)
    return search.least_price(one, other, 0), search.least_point(one, other)


def are_order_prices(order, thing):
    """Whether any value is a dict from all names of an order to numbers from 1 on."""
    if not isinstance(thing, dict) or len(thing) != len(order):
        return False
    return all([triple[0] in thing and is_number(thing[triple[0]]) and thing[triple[0]] >= 1 for triple in order])


class Nearest:
    """Looks for the least dear point at which two different nodes differ."""

    def __init__(self, store, begin, prices):
        self.store = store
        self.begin = begin
        self.prices = prices
        self.made = {}

    def least_price(self, one, other, level):
        """The least price, from a level on, at which two different nodes differ."""
        if level == len(self.store.order):
            return 0
        key = (one, other, level)
        if key not in self.made:
            self.made[key] = min([found for found in self.prices_by(one, other, level) if found is not None])
        return self.made[key]

    def prices_by(self, one, other, level):
        """The list of the least prices by each number of a level; None where nothing differs behind it."""
        name, low, _ = self.store.order[level]
        found = []
        for at in range(size_at(self.store.order, level)):
            first = self.store.child(one, level, at)
            second = self.store.child(other, level, at)
            if first == second:
                found.append(None)
            else:
                own = self.prices[name] * abs(low + at - self.begin[name])
                found.append(own + self.least_price(first, second, level + 1))
        return found

    def least_point(self, one, other):
        """The least of the least dear points at which two different nodes differ."""
        indexes = []
        for level in range(len(self.store.order)):
            at = self.prices_by(one, other, level).index(self.least_price(one, other, level))
            indexes.append(at)
            one = self.store.child(one, level, at)
            other = self.store.child(other, level, at)
        return order_point(self.store.order, indexes)


def idle(fork):
    """The ascending tuple of the names for which no question asks."""
    want_fork(fork)
    asked = {word: True for word, _ in fork[2]}
    return tuple(sorted([triple[0] for triple in fork[1] if triple[0] not in asked]))


def untwin(fork, one, other):
    """The least point at which the worth changes if the numbers of two names are exchanged; None for twins."""
    want_fork(fork)
    first = level_of(fork[1], one)
    second = level_of(fork[1], other)
    if first is None:
        raise BadName("no name of the order")
    if second is None or first == second or fork[1][first][1:] != fork[1][second][1:]:
        raise BadName("no other name of the order with the same range")
    store = Store(fork[1])
    number = stored(store, fork)
    return parting_in(store, number, swapped(store, number, first, second))


def swapped(store, number, first, second):
    """The node that has the worths of a node where the numbers of two levels are exchanged."""
    places = list(range(len(store.order)))
    places[first] = second
    places[second] = first
    return Arranging(store, store, places).node(number, 0)


def families(fork):
    """The ascending tuple of the ascending tuples of names that can be exchanged."""
    want_fork(fork)
    store = Store(fork[1])
    number = stored(store, fork)
    found = []
    for triple in sorted(fork[1]):
        level = level_of(fork[1], triple[0])
        at = 0
        while at < len(found) and not are_twins(store, number, level_of(fork[1], found[at][0]), level):
            at += 1
        if at == len(found):
            found.append(())
        found[at] = found[at] + (triple[0],)
    return tuple(found)


def are_twins(store, number, first, second):
    """Whether two levels have the same range and can be exchanged."""
    if store.order[first][1:] != store.order[second][1:]:
        return False
    return swapped(store, number, first, second) == number
