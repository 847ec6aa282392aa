"""Sheets, cells and expressions as trees, and the paths that lead through them."""

from whysheets.errors import BadPath, BadSheet, BadTree
from whysheets.shapes import CELLS, IN_ROWS, is_shaped, parts_of
from whysheets.values import is_number, is_tuple_of


def is_expression(thing):
    """Whether any value is an expression; place and at are let."""
    return is_whole(thing, True)


def is_cell(thing):
    """Whether any value is a cell, a row or a settling cell."""
    if not is_shaped(thing) or thing[0] not in CELLS:
        return False
    return all([is_whole(part, thing[0] == "row") for _, part in parts_of(thing)])


def is_sheet(thing):
    """Whether any value is a sheet, by its form."""
    if not is_tuple_of(thing, 3) or not isinstance(thing[0], str) or thing[0] != "sheet":
        return False
    for things in (thing[1], thing[2]):
        if not isinstance(things, tuple) or not things:
            return False
    if not all([is_shaped(one) and one[0] == "input" for one in thing[1]]):
        return False
    return all([is_cell(one) for one in thing[2]])


def is_whole(thing, in_row):
    """Whether any value is an expression that can stand inside or outside of a row."""
    waiting = [thing]
    while waiting:
        one = waiting.pop()
        if not is_shaped(one) or one[0] in CELLS or one[0] == "input":
            return False
        if one[0] in IN_ROWS and not in_row:
            return False
        waiting.extend([part for _, part in parts_of(one)])
    return True


def paths(sheet):
    """The list of all paths of a sheet, each thing ahead of those within it."""
    if not is_sheet(sheet):
        raise BadSheet("no sheet")
    found = []
    for group in (1, 2):
        for at, thing in enumerate(sheet[group]):
            add_paths(found, (group, at), thing)
    return found


def add_paths(found, path, thing):
    """Adds the path of a thing, and those of all that is in it."""
    found.append(path)
    for more, part in parts_of(thing):
        add_paths(found, path + more, part)


def tree_at(sheet, path):
    """What a path of a sheet leads to."""
    check_path(sheet, path)
    thing = sheet
    for index in path:
        thing = thing[index]
    return thing


def changed_at(sheet, path, tree):
    """The sheet with another tree at a path."""
    check_path(sheet, path)
    made = with_tree(sheet, path, tree)
    if not is_sheet(made):
        raise BadTree("no sheet with this tree")
    return made


def check_path(sheet, path):
    """Raises BadSheet, then BadPath."""
    known = paths(sheet)
    # True would be equal to 1, and only numbers are sure to have a hash.
    if not isinstance(path, tuple) or not all([is_number(index) for index in path]) or path not in known:
        raise BadPath("no path of the sheet")


def with_tree(thing, path, tree):
    """The tuple with a tree at the place to which the indexes lead."""
    if not path:
        return tree
    at = path[0]
    return thing[:at] + (with_tree(thing[at], path[1:], tree),) + thing[at + 1:]
