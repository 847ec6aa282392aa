"""Forks that are sums of forks of fewer names."""

from whysheets.errors import BadNames, OpenWorth
from whysheets.forks import want_fork
from whysheets.joins import are_names
from whysheets.nodes import Parts, Store, combined, held_at, stored, written
from whysheets.partings import parting_in
from whysheets.tallies import order_point


def apart(fork, names):
    """Two forks, of some names and of the others, whose sum the fork is; or two points that show there are none."""
    want_fork(fork)
    if not are_names(fork[1], names):
        raise BadNames("no tuple of different names of the order")
    store = Store(fork[1])
    first = stored(store, fork)
    want_closed(store, first)
    order = fork[1]
    # With the least numbers of the others, and with those of the names.
    own = held_at(store, first, {k: 0 for k, triple in enumerate(order) if triple[0] not in names}, {})
    rest = held_at(store, first, {k: 0 for k, triple in enumerate(order) if triple[0] in names}, {})
    least = held_at(store, first, {k: 0 for k in range(len(order))}, {})
    one = combined(store, (own, least), decide_minus, {})
    both = combined(store, (one, rest), decide_plus, {})
    if both == first:
        return "sum", written(store, one, order), written(store, rest, order)
    return "four", order_point(order, [0] * len(order)), parting_in(store, first, both)


def want_closed(store, first):
    """Raises OpenWorth with the least point at which the worth of a node is None."""
    marked = combined(store, (first,), decide_open, {})
    point = parting_in(store, marked, store.leaf(0))
    if point is not None:
        raise OpenWorth(point)


def decide_open(store, numbers):
    """Decides whether a worth is None: 1 if it is, otherwise 0."""
    if not store.is_leaf(numbers[0]):
        return None
    return store.leaf(1 if store.worth_of(numbers[0]) is None else 0)


def decide_minus(store, numbers):
    """Decides on the difference of two worths."""
    if not store.is_leaf(numbers[0]) or not store.is_leaf(numbers[1]):
        return None
    return store.leaf(store.worth_of(numbers[0]) - store.worth_of(numbers[1]))


def decide_plus(store, numbers):
    """Decides on the sum of two worths."""
    if not store.is_leaf(numbers[0]) or not store.is_leaf(numbers[1]):
        return None
    return store.leaf(store.worth_of(numbers[0]) + store.worth_of(numbers[1]))


def bunches(fork):
    """The ascending tuple of the most ascending tuples of names by which the fork comes apart."""
    want_fork(fork)
    store = Store(fork[1])
    first = stored(store, fork)
    want_closed(store, first)
    found = []
    for level, triple in enumerate(fork[1]):
        joint = [triple[0]]
        others = []
        for lot in found:
            if any([are_bound(store, first, level, one) for one in levels_of(fork[1], lot)]):
                joint.extend(lot)
            else:
                others.append(lot)
        found = others + [joint]
    return tuple(sorted([tuple(sorted(lot)) for lot in found]))


def levels_of(order, names):
    """The list of the levels of some names."""
    return [level for level, triple in enumerate(order) if triple[0] in names]


def are_bound(store, first, one, other):
    """Whether what a number of a level adds to the worth depends on the number of another one."""
    parts = Parts(store)
    base = parts.part(first, one, 0)
    for at in range(1, store.order[one][2] - store.order[one][1] + 1):
        gain = combined(store, (parts.part(first, one, at), base), decide_minus, {})
        if parts.asks(gain, other):
            return True
    return False
