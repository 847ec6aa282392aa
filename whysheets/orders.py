"""Forks in other orders, and orders with the fewest questions."""

from whysheets.arranging import arranged
from whysheets.errors import BadAt, BadName, BadNames, BadOrder
from whysheets.forks import is_order, want_fork
from whysheets.joins import are_names, level_of
from whysheets.nodes import Parts, Store, stored, written
from whysheets.values import is_number, is_number_from


def reordered(fork, order):
    """The fork of the same worths in another order of the same names."""
    want_fork(fork)
    if not is_order(order) or sorted(order) != sorted(fork[1]):
        raise BadOrder("no order of the same names with the same ranges")
    return in_order(fork, order)


def in_order(fork, order):
    """The fork of the same worths in an order with the same triples."""
    store = Store(fork[1])
    target, first = arranged(store, stored(store, fork), order)
    return written(target, first, order)


def exchanged(fork, at):
    """The fork of the same worths, with a triple and the one behind it exchanged."""
    want_fork(fork)
    order = fork[1]
    if not is_number_from(at, 0, len(order) - 2):
        raise BadAt("no place with one behind it")
    return in_order(fork, order[:at] + (order[at + 1], order[at]) + order[at + 2:])


def levels(fork):
    """The dict from the names of the order to how many questions ask for them."""
    want_fork(fork)
    found = {name: 0 for name in names_of(fork)}
    for word, _ in fork[2]:
        if word != "leaf":
            found[word] += 1
    return found


def names_of(fork):
    """The ascending list of the names of a fork's order."""
    return sorted([triple[0] for triple in fork[1]])


def width(fork, ahead, name):
    """How many questions ask for a name where just some names stand ahead of it."""
    want_fork(fork)
    if not are_names(fork[1], ahead):
        raise BadNames("no tuple of different names of the order")
    if level_of(fork[1], name) is None or name in ahead:
        raise BadName("no other name of the order")
    store = Store(fork[1])
    parts = Parts(store)
    numbers = [stored(store, fork)]
    for one in ahead:
        numbers = parts_of_all(parts, numbers, level_of(fork[1], one))
    return count_asking(parts, numbers, level_of(fork[1], name))


def parts_of_all(parts, numbers, level):
    """The list, each once, of what some nodes are with the numbers of a level."""
    found = {}
    for number in numbers:
        for part in parts.all_parts(number, level):
            found[part] = True
    return list(found)


def count_asking(parts, numbers, level):
    """How many of some nodes depend on a level."""
    return len([number for number in numbers if parts.asks(number, level)])


class Widths:
    """The widths of all names of a fork behind all ascending tuples of other names."""

    def __init__(self, fork):
        self.names = names_of(fork)
        self.lots = subsets(self.names)
        self.table = {}
        store = Store(fork[1])
        parts = Parts(store)
        behind = {(): [stored(store, fork)]}
        for lot in self.lots:
            for name in self.names_beside(lot):
                level = level_of(fork[1], name)
                self.table[(lot, name)] = count_asking(parts, behind[lot], level)
                if with_name(lot, name) not in behind:
                    behind[with_name(lot, name)] = parts_of_all(parts, behind[lot], level)

    def names_beside(self, lot):
        """The ascending list of the names that are not in a lot."""
        return [name for name in self.names if name not in lot]


def subsets(names):
    """The list of all ascending tuples of some ascending names, shorter ones first."""
    found = [()]
    for name in names:
        found = found + [lot + (name,) for lot in found]
    return sorted(found, key=len)


def with_name(lot, name):
    """An ascending tuple with a further name."""
    return tuple(sorted(lot + (name,)))


def are_fair(fork, thing):
    """Whether any value is fair set prices for a fork."""
    want_fork(fork)
    lots = subsets(names_of(fork))
    if not isinstance(thing, dict) or len(thing) != len(lots) or not all([lot in thing for lot in lots]):
        return False
    if not all([is_number(price) for price in list(thing.values())]) or thing[()] != 0:
        return False
    widths = Widths(fork)
    for lot, name in widths.table:
        if thing[with_name(lot, name)] > thing[lot] + widths.table[(lot, name)]:
            return False
    return True


def fewest(fork):
    """The fewest questions in any order, the first order that has so few, and the greatest fair set prices."""
    want_fork(fork)
    widths = Widths(fork)
    prices = greatest_prices(widths)
    triples = {triple[0]: triple for triple in fork[1]}
    order = tuple([triples[name] for name in first_order(widths)])
    return prices[tuple(widths.names)], order, {lot: prices[lot] for lot in sorted(prices)}


def greatest_prices(widths):
    """The greatest fair set prices: of each lot the fewest questions with just its names ahead."""
    found = {(): 0}
    for lot in widths.lots:
        for name in widths.names_beside(lot):
            bigger = with_name(lot, name)
            price = found[lot] + widths.table[(lot, name)]
            found[bigger] = min(price, found.get(bigger, price))
    return found


def first_order(widths):
    """The least list of all names that has the fewest questions."""
    rest = {tuple(widths.names): 0}
    for k in range(len(widths.lots) - 2, -1, -1):
        lot = widths.lots[k]
        rest[lot] = min([price_of_next(widths, rest, lot, name) for name in widths.names_beside(lot)])
    found = []
    lot = ()
    while len(found) < len(widths.names):
        prices = [price_of_next(widths, rest, lot, name) for name in widths.names_beside(lot)]
        found.append(widths.names_beside(lot)[prices.index(min(prices))])
        lot = with_name(lot, found[-1])
    return found


def price_of_next(widths, rest, lot, name):
    """The fewest questions behind a lot if a name comes next."""
    return widths.table[(lot, name)] + rest[with_name(lot, name)]
