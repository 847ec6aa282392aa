"""How much names of forks matter."""

from math import factorial

from whysheets.errors import BadPoint, OpenWorth
from whysheets.forks import want_fork
from whysheets.nodes import Parts, Store, combined, size_at, stored
from whysheets.tallies import Tally, is_order_point, order_point


def sway(fork):
    """The dict from the names to how often another number changes the worth."""
    want_fork(fork)
    store = Store(fork[1])
    first = stored(store, fork)
    levels = {triple[0]: level for level, triple in enumerate(fork[1])}
    return {name: sway_of(store, first, levels[name]) for name in sorted(levels)}


def sway_of(store, first, level):
    """How many pairs of a point and another number of a level have different worths."""
    rows = Parts(store).all_parts(first, level)
    weights = [(1,) * size_at(store.order, one) for one in range(len(store.order))]
    # The level itself is held, so each point of the others counts once.
    weights[level] = (1,) + (0,) * (len(rows) - 1)
    tally = Tally(store, weights)
    total = 0
    for k, one in enumerate(rows):
        for other in rows[k + 1:]:
            # Each of the two numbers can stand in the place of the other.
            total += 2 * tally.counts_behind(unlike(store, one, other), 0).get(1, 0)
    return total


def unlike(store, one, other):
    """The node that is 1 where two nodes differ, otherwise 0."""
    return combined(store, (one, other), decide_unlike, {})


def decide_unlike(store, numbers):
    """Decides whether two nodes differ."""
    if numbers[0] == numbers[1]:
        return store.leaf(0)
    if store.is_leaf(numbers[0]) and store.is_leaf(numbers[1]):
        return store.leaf(1)
    return None


def shares(fork, base, point):
    """The dict from the names to what the worth gains by them, over all sequences in which they are moved."""
    want_fork(fork)
    if not is_order_point(fork[1], base) or not is_order_point(fork[1], point):
        raise BadPoint("no point of the order")
    worths = worths_between(fork, base, point)
    order = fork[1]
    found = {}
    for name in sorted(base):
        level = [triple[0] for triple in order].index(name)
        found[name] = share_of(worths, len(order), level)
    return found


def worths_between(fork, base, point):
    """The dict from the tuples of truths, whether a level is moved, to the worths of their points."""
    store = Store(fork[1])
    order = fork[1]
    rows = {(): stored(store, fork)}
    for level, (name, low, _) in enumerate(order):
        behind = {}
        for moved in rows:
            behind[moved + (False,)] = store.child(rows[moved], level, base[name] - low)
            behind[moved + (True,)] = store.child(rows[moved], level, point[name] - low)
        rows = behind
    found = {moved: store.worth_of(rows[moved]) for moved in rows}
    opened = [moved for moved in found if found[moved] is None]
    if opened:
        raise OpenWorth(least_between(order, opened, base, point))
    return found


def least_between(order, lots, base, point):
    """The least of the points at which some levels are moved."""
    rows = []
    for moved in lots:
        rows.append([(point if moved[k] else base)[triple[0]] - triple[1] for k, triple in enumerate(order)])
    return order_point(order, min(rows))


def share_of(worths, count, level):
    """The sum of what the worth gains when a level is moved, over all sequences."""
    total = 0
    for moved in worths:
        if not moved[level]:
            behind = moved[:level] + (True,) + moved[level + 1:]
            ahead = len([one for one in moved if one])
            times = factorial(ahead) * factorial(count - 1 - ahead)
            total += times * (worths[behind] - worths[moved])
    return total
