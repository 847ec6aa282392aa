"""What expressions of two parts come to, for two numbers."""


def plus(one, other):
    """The sum."""
    return one + other


def minus(one, other):
    """The difference."""
    return one - other


def times(one, other):
    """The product."""
    return one * other


def least(one, other):
    """The lesser one."""
    return min(one, other)


def greatest(one, other):
    """The greater one."""
    return max(one, other)


def less(one, other):
    """1 if the first one is less, otherwise 0."""
    return 1 if one < other else 0


def atmost(one, other):
    """1 if the first one is not greater, otherwise 0."""
    return 1 if one <= other else 0


def same(one, other):
    """1 if both are equal, otherwise 0."""
    return 1 if one == other else 0


OPERATIONS = {
    "plus": plus, "minus": minus, "times": times, "least": least, "greatest": greatest,
    "less": less, "atmost": atmost, "same": same,
}
# What puts all items of a row, or all numbers of a name, together.
FOLDS = {"sum": "plus", "fewest": "least", "most": "greatest"}


def folded(word, worths):
    """The sum, the least or the greatest of one or more worths; None if one of them is open."""
    if None in worths:
        return None
    operation = OPERATIONS[FOLDS[word]]
    total = worths[0]
    for one in worths[1:]:
        total = operation(total, one)
    return total
