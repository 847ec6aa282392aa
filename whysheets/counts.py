"""How many points have the worths of a fork."""

from whysheets.errors import BadNumber, BadPoint, BadWeights, BadWorth
from whysheets.forks import want_fork
from whysheets.nodes import Store, size_at, stored
from whysheets.tallies import Tally, are_weights, is_order_point, order_point
from whysheets.values import is_number_from, is_worth, worth_key


def counted(fork, weights):
    """The dict from the worths of leaves to the sums of the weights of their points."""
    want_fork(fork)
    if not are_weights(fork[1], weights):
        raise BadWeights("no dict from all names to tuples of numbers")
    store = Store(fork[1])
    tally = Tally(store, [weights[triple[0]] for triple in fork[1]])
    found = tally.counts_behind(stored(store, fork), 0)
    return {worth: found[worth] for worth in sorted(found, key=worth_key)}


def rank(fork, point):
    """How many points with the same worth are less than a point."""
    want_fork(fork)
    if not is_order_point(fork[1], point):
        raise BadPoint("no point of the order")
    store = Store(fork[1])
    tally = plain_tally(store)
    first = stored(store, fork)
    # The nodes to which the point leads, level by level.
    row = [first]
    for level, (name, low, _) in enumerate(fork[1]):
        row.append(store.child(row[level], level, point[name] - low))
    worth = store.worth_of(row[-1])
    total = 0
    for level, (name, low, _) in enumerate(fork[1]):
        for at in range(point[name] - low):
            total += tally.counts_behind(store.child(row[level], level, at), level + 1).get(worth, 0)
    return total


def ranked(fork, worth, number):
    """The point with this worth behind so many others that have it."""
    want_fork(fork)
    store = Store(fork[1])
    here = stored(store, fork)
    tally = plain_tally(store)
    counts = tally.counts_behind(here, 0)
    if not is_worth(worth) or worth not in counts:
        raise BadWorth("no worth of a leaf")
    if not is_number_from(number, 0, counts[worth] - 1):
        raise BadNumber("no number of a point with this worth")
    left = number
    indexes = []
    for level in range(len(fork[1])):
        at = 0
        count = tally.counts_behind(store.child(here, level, at), level + 1).get(worth, 0)
        while count <= left:
            left -= count
            at += 1
            count = tally.counts_behind(store.child(here, level, at), level + 1).get(worth, 0)
        indexes.append(at)
        here = store.child(here, level, at)
    return order_point(fork[1], indexes)


def plain_tally(store):
    """The tally in which each point counts once."""
    return Tally(store, [(1,) * size_at(store.order, level) for level in range(len(store.order))])
