"""Orders, and forks over them: the one form of what comes to the same at all points."""

from whysheets.errors import BadFork, BadOrder, BadPoint, BadWorths, TooMany
from whysheets.nodes import Store, count_points, put_together, size_at, stored, written
from whysheets.values import is_list, is_number_from, is_tuple_of, is_worth
from whysheets.tallies import is_order_point
from whysheets.words import is_name

FARTHEST = 99
MOST_NAMES = 7
MOST_WORTHS = 20000


def is_order(thing):
    """Whether any value is an order."""
    if not isinstance(thing, tuple) or len(thing) > MOST_NAMES:
        return False
    if not all([is_triple(triple) for triple in thing]):
        return False
    return len({triple[0]: True for triple in thing}) == len(thing)


def is_triple(thing):
    """Whether any value is a name with a range of at most nine numbers."""
    if not is_tuple_of(thing, 3) or not is_name(thing[0]):
        return False
    if not is_number_from(thing[1], -FARTHEST, FARTHEST) or not is_number_from(thing[2], -FARTHEST, FARTHEST):
        return False
    return thing[1] <= thing[2] <= thing[1] + 8


def is_fork(thing):
    """Whether any value is a fork."""
    if not is_tuple_of(thing, 3) or not isinstance(thing[0], str) or thing[0] != "fork" or not is_order(thing[1]):
        return False
    nodes = thing[2]
    if not isinstance(nodes, tuple) or not nodes:
        return False
    levels = levels_of(thing[1], nodes)
    if levels is None or len({node: True for node in nodes}) < len(nodes):
        return False
    if not all([goes_on(nodes, levels, k) for k in range(len(nodes))]):
        return False
    met = {}
    meet(nodes, 0, met)
    return list(met) == list(range(len(nodes)))


def levels_of(order, nodes):
    """The list of the levels of nodes, by their form; None if one is no node."""
    places = {triple[0]: level for level, triple in enumerate(order)}
    found = []
    for node in nodes:
        if not is_tuple_of(node, 2) or not isinstance(node[0], str):
            return None
        if node[0] == "leaf" and is_worth(node[1]):
            found.append(len(order))
        elif node[0] in places and are_children(node[1], size_at(order, places[node[0]]), len(nodes)):
            found.append(places[node[0]])
        else:
            return None
    return found


def are_children(thing, size, count):
    """Whether any value is a tuple of so many indexes, not all the same, of so many nodes."""
    if not is_tuple_of(thing, size) or not all([is_number_from(child, 0, count - 1) for child in thing]):
        return False
    return any([child != thing[0] for child in thing])


def goes_on(nodes, levels, k):
    """Whether a node is a leaf or has only children of later levels."""
    if nodes[k][0] == "leaf":
        return True
    return all([levels[child] > levels[k] for child in nodes[k][1]])


def meet(nodes, k, met):
    """Meets a node and those behind it, depth first."""
    if k in met:
        return
    met[k] = True
    if nodes[k][0] != "leaf":
        for child in nodes[k][1]:
            meet(nodes, child, met)


def worth_at(fork, point):
    """The worth of a fork at a point of its order."""
    want_fork(fork)
    if not is_order_point(fork[1], point):
        raise BadPoint("no point of the order")
    lows = {name: low for name, low, _ in fork[1]}
    node = fork[2][0]
    while node[0] != "leaf":
        node = fork[2][node[1][point[node[0]] - lows[node[0]]]]
    return node[1]


def fork_from(order, worths):
    """The fork with these worths, one for each point of an order, ascending."""
    if not is_order(order):
        raise BadOrder("no order")
    if not is_list(worths) or len(worths) != count_points(order) or not all([is_worth(one) for one in worths]):
        raise BadWorths("no list of as many worths as there are points")
    store = Store(order)
    first = put_together(store, list(range(len(order))), [store.leaf(one) for one in worths])
    return written(store, first, order)


def worths_of(fork):
    """The list of the worths of a fork at all points of its order, ascending."""
    want_fork(fork)
    if count_points(fork[1]) > MOST_WORTHS:
        raise TooMany(MOST_WORTHS)
    store = Store(fork[1])
    row = [stored(store, fork)]
    for level in range(len(fork[1])):
        size = size_at(fork[1], level)
        row = [store.child(number, level, at) for number in row for at in range(size)]
    return [store.worth_of(number) for number in row]


def want_fork(fork):
    """Raises BadFork for what is no fork."""
    if not is_fork(fork):
        raise BadFork("no fork")
