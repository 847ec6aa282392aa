"""Points of orders, and how many of them, by weights, have which worths."""

from whysheets.nodes import size_at
from whysheets.values import is_number
from whysheets.wanting import is_point


class Tally:
    """The weights of the points behind nodes, by worths; weights are a list of tuples, one for each level."""

    def __init__(self, store, weights):
        self.store = store
        self.weights = weights
        self.made = {}

    def counts_behind(self, number, level):
        """The dict from the worths behind a node to the weights of their points of the levels from one on."""
        factor = 1
        for one in range(level, self.store.levels[number]):
            factor = factor * sum(self.weights[one])
        own = self.own_counts(number)
        return {worth: own[worth] * factor for worth in own}

    def own_counts(self, number):
        """Likewise, of the levels from the node's own one on."""
        if self.store.is_leaf(number):
            return {self.store.worth_of(number): 1}
        if number not in self.made:
            level = self.store.levels[number]
            found = {}
            for at, child in enumerate(self.store.bodies[number]):
                part = self.counts_behind(child, level + 1)
                for worth in part:
                    found[worth] = found.get(worth, 0) + part[worth] * self.weights[level][at]
            self.made[number] = found
        return self.made[number]


def are_weights(order, thing):
    """Whether any value is a dict from all names of an order to tuples of numbers, one for each of the range."""
    if not isinstance(thing, dict) or len(thing) != len(order):
        return False
    for level, triple in enumerate(order):
        weights = thing.get(triple[0], None)
        if not isinstance(weights, tuple) or len(weights) != size_at(order, level):
            return False
        if not all([is_number(weight) for weight in weights]):
            return False
    return True


def is_order_point(order, thing):
    """Whether any value is a point of an order."""
    return is_point([("input", name, low, high) for name, low, high in order], thing)


def order_point(order, indexes):
    """The point of an order at the indexes of the ranges, its names ascending."""
    numbers = {triple[0]: triple[1] + indexes[level] for level, triple in enumerate(order)}
    return {name: numbers[name] for name in sorted(numbers)}
