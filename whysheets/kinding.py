"""Kinds of expressions, and the faults of names and kinds in them."""

from whysheets.frames import OF_ROWS, has_item, is_row, word_of
from whysheets.shapes import parts_of

NUMBER = "number"
TRUTH = "truth"
TRUTHS = ("less", "atmost", "same", "not", "and", "or")
# All parts of these have to be of one kind.
OF_NUMBERS = ("plus", "minus", "times", "least", "greatest", "less", "atmost", "same", "settle")
OF_TRUTHS = ("not", "and", "or")
NAMING = ("name", "item", "at", "sum", "fewest", "most")


def kind_in(frame, expression):
    """The kind of an expression in a sheet, which may have faults."""
    met = {}
    while True:
        word = expression[0]
        if word in TRUTHS:
            return TRUTH
        if word == "choose":
            expression = expression[2]
        elif word == "cases":
            expression = expression[2][0][1]
        elif word == "at":
            expression = expression[3]
        elif leads_on(frame, expression) and expression[1] not in met:
            met[expression[1]] = True
            expression = frame.things[expression[1]][-1]
        else:
            return NUMBER


def leads_on(frame, expression):
    """Whether an expression has the kind of a cell's or a row's expression."""
    if expression[0] == "name":
        return word_of(frame, expression[1]) == "cell"
    return expression[0] == "item" and is_row(frame, expression[1])


def kind_of_thing(frame, name):
    """The kind of an input, a cell, or each item of a row."""
    thing = frame.things[name]
    return kind_in(frame, thing[-1]) if thing[0] in ("cell", "row") else NUMBER


def name_fault(frame, expression):
    """The word of the fault that an expression's own name has; None if it has none."""
    word = expression[0]
    if word not in NAMING:
        return None
    name = expression[1]
    if name not in frame.things:
        return "unknown"
    if is_row(frame, name) == (word == "name"):
        return "sort"
    if word == "item" and not has_item(frame, name, expression[2]):
        return "beyond"
    return None


def is_other(frame, expression):
    """Whether the row that an expression names has another kind than is wanted there."""
    word = expression[0]
    if word != "at" and word not in OF_ROWS:
        return False
    kind = kind_in(frame, frame.things[expression[1]][-1])
    return kind != (kind_in(frame, expression) if word == "at" else NUMBER)


def wanted_kinds(frame, thing):
    """The triples of a path, a part and the kind that is wanted of it, None for any kind."""
    word = thing[0]
    parts = parts_of(thing)
    if word in OF_NUMBERS:
        return [(path, part, NUMBER) for path, part in parts]
    if word in OF_TRUTHS:
        return [(path, part, TRUTH) for path, part in parts]
    if word != "choose" and word != "cases":
        return [(path, part, None) for path, part in parts]
    first = TRUTH if word == "choose" else NUMBER
    kind = kind_in(frame, thing)
    # The second one gives the kind to all behind it.
    kinds = [first, None] + [kind for _ in parts[2:]]
    return [(path, part, kinds[k]) for k, (path, part) in enumerate(parts)]


def part_faults(frame, thing, path):
    """The list of the faults of all expressions within a thing, those of a path in their order."""
    found = []
    for more, part, wanted in wanted_kinds(frame, thing):
        found.extend(whole_faults(frame, part, path + more, wanted))
    return found


def whole_faults(frame, expression, path, wanted):
    """The list of the faults of an expression and of those within it."""
    found = []
    fault = name_fault(frame, expression)
    if fault is not None:
        found.append((path, fault, expression[1]))
    elif is_other(frame, expression):
        found.append((path, "other", expression[1]))
    if wanted is not None and fault in (None, "beyond") and kind_in(frame, expression) != wanted:
        found.append((path, "kind", wanted))
    return found + part_faults(frame, expression, path)
