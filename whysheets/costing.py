"""What it costs to know a worth.

The worth of a spot over a box is told as a node. Boxes over which it goes alike have
the same node, so that each of them is looked at once: an answer narrows the numbers
of one level of the node, and the price of asking depends on the node alone. What
a node does not ask for would be asked in vain.
"""

from whysheets.growing import grown_at_spot
from whysheets.nodes import Store
from whysheets.questioning import answers_of


class Narrowing:
    """What nodes of a store are with fewer numbers of a level, each worked out once."""

    def __init__(self, store):
        self.store = store
        self.made = {}
        self.known = {}

    def narrowed(self, number, level, begin, end):
        """The node that a node is with the numbers of a level from an index to another one."""
        store = self.store
        if store.levels[number] > level:
            return number
        key = (number, level, begin, end)
        if key not in self.made:
            children = store.bodies[number]
            if store.levels[number] == level:
                children = children[begin:end]
            else:
                children = tuple([self.narrowed(child, level, begin, end) for child in children])
            self.made[key] = store.question(store.levels[number], children)
        return self.made[key]

    def sizes(self, number):
        """The dict from the levels for which a node or one behind it asks to how many numbers they have."""
        if number not in self.known:
            found = {}
            if not self.store.is_leaf(number):
                for child in self.store.bodies[number]:
                    found.update(self.sizes(child))
                found[self.store.levels[number]] = len(self.store.bodies[number])
            self.known[number] = found
        return self.known[number]


class Asking:
    """The prices of asking for a spot over a box and the boxes within it.

    A way to ask is told by its level and by how many numbers the answer "at most" has; 0 asks for the number.
    """

    def __init__(self, table, box, prices, sides):
        self.names = sorted(box)
        self.store = Store(tuple([(name, 0, len(box[name]) - 1) for name in self.names]))
        self.first = grown_at_spot(self.store, table, [box[name] for name in self.names])
        self.narrowing = Narrowing(self.store)
        self.prices = [prices[name] for name in self.names]
        self.sides = None if sides is None else [sides[name] for name in self.names]
        self.made = {}

    def asking_price(self, number):
        """The price of asking for a node."""
        return 0 if self.store.is_leaf(number) else self.best(number)[0]

    def best(self, number):
        """The price of asking for a node that is no leaf, with the level and the many of a best way to ask first."""
        if number not in self.made:
            found = None
            for own, level, many in self.ways(number):
                # Those that come now are themselves as dear as what was found.
                if found is not None and own >= found[0]:
                    break
                cost = self.worst_cost(own, self.parts(number, level, many), found)
                if found is None or cost < found[0]:
                    found = (cost, level, many)
            self.made[number] = found
        return self.made[number]

    def ways(self, number):
        """The ascending list of the prices of all ways to ask, with their levels and manies."""
        sizes = self.narrowing.sizes(number)
        found = [(self.prices[level], level, 0) for level in sizes]
        if self.sides is not None:
            for level in sizes:
                found.extend([(self.sides[level], level, many) for many in range(1, sizes[level])])
        return sorted(found)

    def parts(self, number, level, many):
        """The list of the nodes behind the answers for a node that asks for a level."""
        size = self.narrowing.sizes(number)[level]
        if many == 0:
            return [self.narrowing.narrowed(number, level, k, k + 1) for k in range(size)]
        return [self.narrowing.narrowed(number, level, 0, many), self.narrowing.narrowed(number, level, many, size)]

    def worst_cost(self, own, parts, found):
        """What a way to ask comes to at the worst, or another number that is no less than what was found."""
        worst = own
        for part in parts:
            worst = max(worst, own + self.asking_price(part))
            if found is not None and worst >= found[0]:
                break
        return worst

    def behind_all(self, number, box, question):
        """The list of the nodes behind the answers of a question over a box with this node."""
        level = self.names.index(question[1])
        if level not in self.narrowing.sizes(number):
            return [number for _ in answers_of(box, question)]
        many = 0 if question[0] == "number" else box[question[1]].index(question[2]) + 1
        return self.parts(number, level, many)
