"""Nodes of forks while they are made.

A store gives each node a number. Nodes with the same worths at all points have
the same number, so forks are the same if their first nodes are.
"""

from whysheets.errors import TooMany

MOST_NODES = 4000


class Store:
    """Nodes over an order; each is told by its level and its worth or children.

    The level of a question is the place of its name in the order, that of a leaf
    is the length of the order.
    """

    def __init__(self, order):
        self.order = order
        self.levels = []
        self.bodies = []
        self.numbers = {}

    def leaf(self, worth):
        """The number of the leaf with a worth."""
        return self.numbered(len(self.order), worth)

    def question(self, level, children):
        """The number of the node that goes on to these children; of one child if they are all the same."""
        first = children[0]
        if all([child == first for child in children]):
            return first
        return self.numbered(level, children)

    def numbered(self, level, body):
        """The number of a node, a new one if there is none yet."""
        known = (level, body)
        if known not in self.numbers:
            self.numbers[known] = len(self.levels)
            self.levels.append(level)
            self.bodies.append(body)
        return self.numbers[known]

    def is_leaf(self, number):
        """Whether a node is a leaf."""
        return self.levels[number] == len(self.order)

    def worth_of(self, number):
        """The worth of a leaf."""
        return self.bodies[number]

    def child(self, number, level, at):
        """The node to which a node leads by the number at an index of the range of a level."""
        return self.bodies[number][at] if self.levels[number] == level else number


class Parts:
    """What nodes of a store are with the number of a level held, each worked out once."""

    def __init__(self, store):
        self.store = store
        self.made = {}

    def part(self, number, level, at):
        """The node that has the worths of a node with a level's number held at an index."""
        store = self.store
        if store.levels[number] >= level:
            return store.child(number, level, at)
        key = (number, level, at)
        if key not in self.made:
            children = [self.part(child, level, at) for child in store.bodies[number]]
            self.made[key] = store.question(store.levels[number], tuple(children))
        return self.made[key]

    def all_parts(self, number, level):
        """The list of what a node is with each number of a level."""
        return [self.part(number, level, at) for at in range(size_at(self.store.order, level))]

    def asks(self, number, level):
        """Whether the worths of a node depend on a level."""
        found = self.all_parts(number, level)
        return any([one != found[0] for one in found])


def size_at(order, level):
    """How many numbers the range at a level of an order has."""
    return order[level][2] - order[level][1] + 1


def count_points(order):
    """How many points an order has."""
    count = 1
    for level in range(len(order)):
        count = count * size_at(order, level)
    return count


def put_together(store, levels, row):
    """The node that asks for some ascending levels alone, given the nodes behind all of their numbers, ascending."""
    for level in levels[::-1]:
        size = size_at(store.order, level)
        row = [store.question(level, tuple(row[k:k + size])) for k in range(0, len(row), size)]
    return row[0]


def stored(store, fork):
    """The number that the first node of a fork gets in a store."""
    places = {triple[0]: level for level, triple in enumerate(store.order)}
    numbers = {}
    # A child has a deeper level than the question, but not always a greater index.
    for level in range(len(store.order), -1, -1):
        for k, (word, body) in enumerate(fork[2]):
            if word == "leaf" and level == len(store.order):
                numbers[k] = store.leaf(body)
            elif places.get(word) == level:
                numbers[k] = store.question(level, tuple([numbers[child] for child in body]))
    return numbers[0]


def written(store, first, order):
    """The fork with a first node of a store, over an order with all names that it asks for."""
    found = {}
    add_nodes(store, first, found)
    if len(found) > MOST_NODES:
        raise TooMany(MOST_NODES)
    nodes = []
    for number in found:
        body = store.bodies[number]
        if store.is_leaf(number):
            nodes.append(("leaf", body))
        else:
            nodes.append((store.order[store.levels[number]][0], tuple([found[child] for child in body])))
    return ("fork", order, tuple(nodes))


def add_nodes(store, number, found):
    """Adds the indexes of a node and of those behind it that are not yet known, depth first."""
    if number in found:
        return
    found[number] = len(found)
    if not store.is_leaf(number):
        for child in store.bodies[number]:
            add_nodes(store, child, found)


def combined(store, numbers, decide, made):
    """The node that has at each point what decide makes of the nodes there.

    Given the store and the tuple of nodes, decide returns the node that comes of
    it, or None if that is not known yet; made holds what was made already.
    """
    if numbers not in made:
        decided = decide(store, numbers)
        if decided is None:
            level = min([store.levels[number] for number in numbers])
            children = []
            for at in range(size_at(store.order, level)):
                behind = tuple([store.child(number, level, at) for number in numbers])
                children.append(combined(store, behind, decide, made))
            decided = store.question(level, tuple(children))
        made[numbers] = decided
    return made[numbers]


def held_at(store, number, fixed, made):
    """The node that has the worths of a node with a level's number held at an index.

    fixed is the dict from levels to indexes; made holds what was made already.
    """
    if store.is_leaf(number):
        return number
    if number not in made:
        level = store.levels[number]
        body = store.bodies[number]
        if level in fixed:
            made[number] = held_at(store, body[fixed[level]], fixed, made)
        else:
            made[number] = store.question(level, tuple([held_at(store, child, fixed, made) for child in body]))
    return made[number]
