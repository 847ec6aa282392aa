"""The forms of inputs, cells and expressions, slot by slot."""

from whysheets.values import is_number_from, is_rising, is_tuple_of
from whysheets.words import is_name

LEAST = -999
GREATEST = 999

# What stands behind the word of a tuple: x a name, n a number, k the number of
# an item, e an expression, p the pairs of a cases.
FORMS = {
    "input": "xnn",
    "cell": "xe",
    "row": "xke",
    "settle": "xnnee",
    "number": "n",
    "name": "x",
    "item": "xk",
    "place": "",
    "at": "xne",
    "plus": "ee",
    "minus": "ee",
    "times": "ee",
    "least": "ee",
    "greatest": "ee",
    "sum": "x",
    "fewest": "x",
    "most": "x",
    "less": "ee",
    "atmost": "ee",
    "same": "ee",
    "not": "e",
    "and": "ee",
    "or": "ee",
    "choose": "eee",
    "cases": "epe",
}
CELLS = ("cell", "row", "settle")
RANGED = ("input", "settle")
IN_ROWS = ("place", "at")


def is_shaped(thing):
    """Whether any value has the word and the slots of a tuple, whatever its expressions are."""
    if not isinstance(thing, tuple) or not thing or not isinstance(thing[0], str) or thing[0] not in FORMS:
        return False
    form = FORMS[thing[0]]
    if len(thing) != len(form) + 1:
        return False
    if not all([fits_slot(slot, thing[k + 1]) for k, slot in enumerate(form)]):
        return False
    return thing[0] not in RANGED or thing[2] <= thing[3]


def fits_slot(slot, thing):
    """Whether any value can stand in a slot; expressions are looked at elsewhere."""
    if slot == "x":
        return is_name(thing)
    if slot == "n":
        return is_number_from(thing, LEAST, GREATEST)
    if slot == "k":
        return is_number_from(thing, 1, 9)
    return slot == "e" or are_pairs(thing)


def are_pairs(thing):
    """Whether any value is one or more pairs with rising numbers."""
    if not isinstance(thing, tuple) or not thing:
        return False
    for pair in thing:
        if not is_tuple_of(pair, 2) or not is_number_from(pair[0], LEAST, GREATEST):
            return False
    return is_rising([pair[0] for pair in thing])


def parts_of(thing):
    """The pairs of a path and an expression of what stands within a thing of known shape."""
    found = []
    for k, slot in enumerate(FORMS[thing[0]]):
        if slot == "e":
            found.append(((k + 1,), thing[k + 1]))
        elif slot == "p":
            found.extend([((k + 1, j, 1), pair[1]) for j, pair in enumerate(thing[k + 1])])
    return found


def names_in(thing):
    """The names of a thing, in the order of the tuple, each as often as it stands there."""
    found = []
    waiting = [thing]
    while waiting:
        one = waiting.pop()
        # A name stands right behind the word of its tuple, ahead of all parts.
        if FORMS[one[0]].startswith("x"):
            found.append(one[1])
        waiting.extend([part for _, part in parts_of(one)][::-1])
    return found


def renamed(thing, names):
    """The thing with other names, as a dict tells for those that it has."""
    made = [thing[0]]
    for k, slot in enumerate(FORMS[thing[0]]):
        old = thing[k + 1]
        if slot == "x":
            made.append(names.get(old, old))
        elif slot == "e":
            made.append(renamed(old, names))
        elif slot == "p":
            made.append(tuple([(number, renamed(part, names)) for number, part in old]))
        else:
            made.append(old)
    return tuple(made)
