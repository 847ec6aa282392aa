"""What is left of a fork behind some numbers, and which answers tell it from all forks that are no larger."""

from whysheets.forks import want_fork
from whysheets.nodes import Store, size_at, stored
from whysheets.partings import parting_indexes
from whysheets.tallies import order_point


def rests(fork):
    """The tuple of how many different rests a fork has at each depth."""
    want_fork(fork)
    store = Store(fork[1])
    return tuple([len(row) for row in rests_by_depth(store, stored(store, fork))])


def rests_by_depth(store, number):
    """The list for each depth of the dict from the nodes of the rests to the indexes of a way to each.

    The way to a rest goes on from the way to a rest of the depth ahead of it.
    """
    found = [{number: ()}]
    for level in range(len(store.order)):
        row = {}
        for one in found[-1]:
            for at in range(size_at(store.order, level)):
                child = store.child(one, level, at)
                if child not in row:
                    row[child] = found[-1][one] + (at,)
        found.append(row)
    return found


def lesson(fork):
    """Answers that no other fork gives that is no larger, the points ascending."""
    want_fork(fork)
    store = Store(fork[1])
    count = len(fork[1])
    rows = rests_by_depth(store, stored(store, fork))
    told = {} if count > 0 else {(): list(rows[0])[0]}
    for depth in range(1, count + 1):
        tests = [()] if depth == count else parting_tests(store, list(rows[depth]), depth)
        for one in rows[depth - 1]:
            for at in range(size_at(store.order, depth - 1)):
                child = store.child(one, depth - 1, at)
                for test in tests:
                    told[rows[depth - 1][one] + (at,) + test] = node_behind(store, child, depth, test)
    return [(order_point(fork[1], indexes), store.worth_of(told[indexes])) for indexes in sorted(told)]


def node_behind(store, number, depth, indexes):
    """The node to which the indexes from a depth on lead."""
    for k, at in enumerate(indexes):
        number = store.child(number, depth + k, at)
    return number


def parting_tests(store, numbers, depth):
    """The list of the indexes from a depth on that tell some nodes from each other, fewer than there are nodes."""
    groups = [numbers]
    tests = []
    while len(groups) < len(numbers):
        group = [one for one in groups if len(one) > 1][0]
        test = parting_indexes(store, group[0], group[1], depth)
        tests.append(test)
        groups = [part for one in groups for part in parted_by(store, one, depth, test)]
    return tests


def parted_by(store, numbers, depth, test):
    """The list of the lists of those nodes that have the same worth behind a test."""
    found = {}
    for number in numbers:
        found.setdefault(node_behind(store, number, depth, test), []).append(number)
    return [found[leaf] for leaf in found]
