"""Forks as expressions, as sheets and as texts."""

from whysheets.errors import BadFork, BadName, NotWritten, TooMany
from whysheets.forks import want_fork
from whysheets.making import fork_of
from whysheets.texts import sheet_text
from whysheets.values import is_number_from
from whysheets.words import is_name

MOST_CELLS = 40
GREATEST = 999
LETTERS = "abcdefghijklmnopqrstuvwxyz"


def as_expression(fork):
    """The expression of cases that comes to a fork's worth."""
    want_fork(fork)
    for word, worth in fork[2]:
        if word == "leaf" and not is_number_from(worth, -GREATEST, GREATEST):
            raise NotWritten(worth)
    return expression_at(fork, 0, {})


def expression_at(fork, k, made):
    """The expression of a node; made holds what was made already."""
    if k not in made:
        word, body = fork[2][k]
        if word == "leaf":
            made[k] = ("number", body)
        else:
            for child in body:
                expression_at(fork, child, made)
            made[k] = cases_of(fork, k, made)
    return made[k]


def cases_of(fork, k, parts):
    """The cases of a question, given the dict from its children to their expressions."""
    name, children = fork[2][k]
    low = [triple[1] for triple in fork[1] if triple[0] == name][0]
    counts = [children.count(child) for child in children]
    usual = children[counts.index(max(counts))]
    pairs = [(low + at, parts[child]) for at, child in enumerate(children) if child != usual]
    return ("cases", ("name", name), tuple(pairs), parts[usual])


def as_sheet(fork, name):
    """The sheet with a cell for each question of a fork."""
    want_fork(fork)
    if not fork[1]:
        raise BadFork("no fork of one or more names")
    if not is_name(name) or name in [triple[0] for triple in fork[1]]:
        raise BadName("no name that the order leaves free")
    leaves = [worth for word, worth in fork[2] if word == "leaf"]
    for worth in leaves:
        if worth is not None and not is_number_from(worth, -GREATEST, GREATEST):
            raise NotWritten(worth)
    asking = [k for k, node in enumerate(fork[2]) if node[0] != "leaf"]
    if max(len(asking), 1) + leaves.count(None) > MOST_CELLS:
        raise TooMany(MOST_CELLS)
    return sheet_of(fork, name, asking)


def sheet_of(fork, name, asking):
    """The sheet with a cell for each of the questions, given by their indexes."""
    free = free_names([triple[0] for triple in fork[1]] + [name])
    cells = []
    parts = {}
    for k, (word, worth) in enumerate(fork[2]):
        if word == "leaf" and worth is None:
            ring = free.pop(0)
            cells.append(("settle", ring, 0, 1, ("number", 0), ("minus", ("number", 1), ("name", ring))))
            parts[k] = ("name", ring)
        elif word == "leaf":
            parts[k] = ("number", worth)
    names = {0: name}
    for k in range(len(fork[2]) - 1, 0, -1):
        if k in asking:
            names[k] = free.pop(0)
            parts[k] = ("name", names[k])
    for k in range(len(fork[2]) - 1, 0, -1):
        if k in asking:
            cells.append(("cell", names[k], cases_of(fork, k, parts)))
    cells.append(("cell", name, cases_of(fork, 0, parts) if asking else parts[0]))
    return ("sheet", tuple([("input",) + triple for triple in fork[1]]), tuple(cells))


def free_names(taken):
    """The list of the first names, shorter ones first, that are not taken; enough for all cells."""
    words = list(LETTERS) + [one + other for one in LETTERS for other in LETTERS]
    return [word for word in words if is_name(word) and word not in taken]


def normal_text(sheet, spot, order, name):
    """The text that all spots with the same worths have."""
    return sheet_text(as_sheet(fork_of(sheet, spot, order), name))
