"""Nodes of one order told in another one."""

from whysheets.nodes import Parts, Store, size_at


class Arranging:
    """Puts nodes of a store into a target store, where level k asks for what level places[k] of the store asks for."""

    def __init__(self, store, target, places):
        self.store = store
        self.target = target
        self.places = places
        self.cofactors = Parts(store)
        self.made = {}

    def node(self, number, level):
        """The target's node for one that asks for none of what stands ahead of a level of the target."""
        if self.store.is_leaf(number):
            return self.target.leaf(self.store.worth_of(number))
        key = (number, level)
        if key not in self.made:
            children = []
            for at in range(size_at(self.target.order, level)):
                children.append(self.node(self.cofactors.part(number, self.places[level], at), level + 1))
            self.made[key] = self.target.question(level, tuple(children))
        return self.made[key]


def arranged(store, number, order):
    """The pair of a store over an order with the same names, and its node with the worths of a node."""
    places = {triple[0]: level for level, triple in enumerate(store.order)}
    target = Store(order)
    arranging = Arranging(store, target, [places[triple[0]] for triple in order])
    return target, arranging.node(number, 0)
