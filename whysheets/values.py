"""What counts as a number, a list, a worth."""


def is_number(thing):
    """Whether any value is an int that is no bool."""
    return isinstance(thing, int) and not isinstance(thing, bool)


def is_number_from(thing, low, high):
    """Whether any value is a number from low to high."""
    return is_number(thing) and low <= thing <= high


def is_worth(thing):
    """Whether any value is a number or None."""
    return thing is None or is_number(thing)


def worth_key(worth):
    """What brings worths into order: numbers ascending, None behind them."""
    return (1, 0) if worth is None else (0, worth)


def is_list(thing):
    """Whether any value can stand where a list is expected."""
    return isinstance(thing, (list, tuple))


def is_tuple_of(thing, count):
    """Whether any value is a tuple of so many items."""
    return isinstance(thing, tuple) and len(thing) == count


def is_rising(numbers):
    """Whether each number is greater than the one ahead of it."""
    return all([numbers[k] < numbers[k + 1] for k in range(len(numbers) - 1)])


def brought(number, low, high):
    """The number from low to high that is nearest; what is open stays open."""
    if number is None:
        return None
    return min(max(number, low), high)
