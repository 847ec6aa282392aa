"""Forks that come of other forks."""

from whysheets.errors import BadForks, BadInner, BadName, BadNames, BadPart, BadTable, BadWord, BadWorth
from whysheets.forks import is_fork, want_fork
from whysheets.nodes import Store, combined, held_at, size_at, stored, written
from whysheets.operations import FOLDS, OPERATIONS, folded
from whysheets.values import is_list, is_number, is_worth

# How many forks are joined by words that are no operations.
COUNTS = {"and": 2, "or": 2, "not": 1, "choose": 3}


def joined(word, forks):
    """The fork of the worths that an expression has for the worths of forks."""
    if not isinstance(word, str) or (word not in OPERATIONS and word not in COUNTS):
        raise BadWord("no word that joins forks")
    want_forks(forks, COUNTS.get(word, 2))
    store = Store(forks[0][1])
    numbers = tuple([stored(store, fork) for fork in forks])
    if word in OPERATIONS:
        operation = OPERATIONS[word]
        decide = operated(operation)
    else:
        decide = DECIDED[word]
    return written(store, combined(store, numbers, decide, {}), store.order)


def want_forks(forks, count):
    """Raises BadForks for what is no list of so many forks over one order."""
    if not is_list(forks):
        raise BadForks(None)
    for at, fork in enumerate(forks):
        if not is_fork(fork) or fork[1] != forks[0][1]:
            raise BadForks(at)
    if len(forks) != count:
        raise BadForks(None)


def operated(operation):
    """What decides on two nodes by an operation of their worths."""
    def decide(store, numbers):
        one, other = numbers
        for number in numbers:
            if store.is_leaf(number) and store.worth_of(number) is None:
                return number
        if not store.is_leaf(one) or not store.is_leaf(other):
            return None
        return store.leaf(operation(store.worth_of(one), store.worth_of(other)))
    return decide


def decide_not(store, numbers):
    """Decides on a not: 0 is false, every other number is true."""
    if not store.is_leaf(numbers[0]):
        return None
    worth = store.worth_of(numbers[0])
    return numbers[0] if worth is None else store.leaf(1 if worth == 0 else 0)


def decide_and(store, numbers):
    """Decides on an and; behind a first one that is true the second one counts, as 0 or 1."""
    return decide_by_first(store, numbers, False)


def decide_or(store, numbers):
    """Decides on an or; behind a first one that is false the second one counts, as 0 or 1."""
    return decide_by_first(store, numbers, True)


def decide_by_first(store, numbers, truth):
    """Decides on what is this truth as soon as its first one is."""
    first, second = numbers
    if not store.is_leaf(first):
        return None
    worth = store.worth_of(first)
    if worth is None:
        return first
    if (worth != 0) == truth:
        return store.leaf(1 if truth else 0)
    if not store.is_leaf(second):
        return None
    worth = store.worth_of(second)
    return second if worth is None else store.leaf(1 if worth != 0 else 0)


def decide_choose(store, numbers):
    """Decides on a choose by its first node alone."""
    first, second, third = numbers
    if not store.is_leaf(first):
        return None
    worth = store.worth_of(first)
    if worth is None:
        return first
    return third if worth == 0 else second


DECIDED = {"not": decide_not, "and": decide_and, "or": decide_or, "choose": decide_choose}


def mapped(fork, table, other):
    """The fork with other worths, as a table tells."""
    want_fork(fork)
    if not is_table(table):
        raise BadTable("no dict from numbers to worths")
    if not is_worth(other):
        raise BadWorth("neither a number nor None")
    store = Store(fork[1])
    first = combined(store, (stored(store, fork),), looked_up(table, other), {})
    return written(store, first, fork[1])


def looked_up(table, other):
    """What decides on a node by a table of its worths."""
    def decide(store, numbers):
        if not store.is_leaf(numbers[0]):
            return None
        return store.leaf(table.get(store.worth_of(numbers[0]), other))
    return decide


def is_table(thing):
    """Whether any value is a dict from numbers to worths."""
    if not isinstance(thing, dict):
        return False
    return all([is_number(old) and is_worth(new) for old, new in thing.items()])


def held(fork, part):
    """The fork over the other names, where some are held at numbers."""
    want_fork(fork)
    if not is_part(fork[1], part):
        raise BadPart("no dict from names of the order to numbers of their ranges")
    store = Store(fork[1])
    fixed = {k: part[name] - low for k, (name, low, _) in enumerate(fork[1]) if name in part}
    first = held_at(store, stored(store, fork), fixed, {})
    return written(store, first, without(fork[1], part))


def is_part(order, thing):
    """Whether any value is a dict from names of an order to numbers of their ranges."""
    if not isinstance(thing, dict):
        return False
    ranges = {name: (low, high) for name, low, high in order}
    for name, number in thing.items():
        if not isinstance(name, str) or name not in ranges:
            return False
        if not is_number(number) or not ranges[name][0] <= number <= ranges[name][1]:
            return False
    return True


def without(order, names):
    """The order without some names."""
    return tuple([triple for triple in order if triple[0] not in names])


def put_in(fork, name, inner):
    """The fork where a name has the worths of an inner fork in the place of its number."""
    want_fork(fork)
    level = level_of(fork[1], name)
    if level is None:
        raise BadName("no name of the order")
    if not is_fork(inner) or inner[1] != fork[1]:
        raise BadInner("no fork with the same order")

    store = Store(fork[1])
    numbers = (stored(store, inner),) + branches(store, stored(store, fork), level)
    first = combined(store, numbers, picked(fork[1][level][1]), {})
    return written(store, first, fork[1])


def picked(low):
    """What decides on an inner node and one for each number from low on: the inner worth picks one of these."""
    def decide(store, numbers):
        if not store.is_leaf(numbers[0]):
            return None
        worth = store.worth_of(numbers[0])
        if worth is None or not 0 <= worth - low < len(numbers) - 1:
            return store.leaf(None)
        return numbers[1 + worth - low]
    return decide


def level_of(order, name):
    """The place of a name in an order; None for any value that is no name of it."""
    for level, triple in enumerate(order):
        if isinstance(name, str) and triple[0] == name:
            return level
    return None


def branches(store, number, level):
    """The tuple of what a node is with each number of a level."""
    return tuple([held_at(store, number, {level: at}, {}) for at in range(size_at(store.order, level))])


def over(fork, names, word):
    """The fork over the other names of the sums, the least or the greatest worths over all numbers of some."""
    want_fork(fork)
    if not are_names(fork[1], names):
        raise BadNames("no tuple of different names of the order")
    if not isinstance(word, str) or word not in FOLDS:
        raise BadWord("neither sum nor fewest nor most")
    store = Store(fork[1])
    first = stored(store, fork)
    decide = put_as_one(word)
    # The deepest name first: what is asked ahead of it keeps the tuples of nodes few.
    for level in range(len(fork[1]) - 1, -1, -1):
        if fork[1][level][0] in names:
            first = combined(store, branches(store, first, level), decide, {})
    return written(store, first, without(fork[1], names))


def put_as_one(word):
    """What decides on several nodes by the sum, the least or the greatest of their worths."""
    def decide(store, numbers):
        if not all([store.is_leaf(number) for number in numbers]):
            return None
        return store.leaf(folded(word, [store.worth_of(number) for number in numbers]))
    return decide


def are_names(order, thing):
    """Whether any value is a tuple of different names of an order."""
    if not isinstance(thing, tuple) or not all([level_of(order, name) is not None for name in thing]):
        return False
    return len({name: True for name in thing}) == len(thing)
