"""Lots of changes of a sheet."""

from whysheets.shapes import GREATEST, LEAST
from whysheets.trees import is_cell
from whysheets.values import is_number_from, is_rising, is_tuple_of
from whysheets.words import is_name


def is_lot(thing):
    """Whether any value is a tuple of changes of different names, ascending."""
    if not isinstance(thing, tuple) or not all([is_change(one) for one in thing]):
        return False
    return is_rising([name_changed(one) for one in thing])


def is_change(thing):
    """Whether any value is a change, by its form."""
    if not isinstance(thing, tuple) or not thing or not isinstance(thing[0], str):
        return False
    if thing[0] == "cell":
        return is_tuple_of(thing, 2) and is_cell(thing[1])
    if thing[0] == "gone":
        return is_tuple_of(thing, 2) and is_name(thing[1])
    if thing[0] != "range" or len(thing) != 4 or not is_name(thing[1]):
        return False
    if not all([is_number_from(number, LEAST, GREATEST) for number in thing[2:]]):
        return False
    return thing[2] <= thing[3]


def name_changed(change):
    """The name of a change."""
    return change[1][1] if change[0] == "cell" else change[1]


def does_fit(sheet, lot):
    """Whether a lot fits a sheet."""
    inputs = [thing[1] for thing in sheet[1]]
    names = [cell[1] for cell in sheet[2]]
    for change in lot:
        if (change[0] == "range") != (name_changed(change) in inputs):
            return False
        if change[0] == "gone" and change[1] not in names:
            return False
    gone = [change[1] for change in lot if change[0] == "gone"]
    return any([change[0] == "cell" for change in lot]) or any([name not in gone for name in names])


def sheet_changed(sheet, lot):
    """The sheet to which a lot that fits leads."""
    changes = {name_changed(change): change for change in lot}
    inputs = [changes[one[1]] if one[1] in changes else one for one in sheet[1]]
    cells = []
    for cell in sheet[2]:
        change = changes.get(cell[1], ("cell", cell))
        if change[0] == "cell":
            cells.append(change[1])
    names = [cell[1] for cell in sheet[2]]
    more = [change[1] for change in lot if change[0] == "cell" and change[1][1] not in names]
    return ("sheet", tuple([("input", one[1], one[2], one[3]) for one in inputs]), tuple(cells + more))


def do_meet(one, other):
    """Whether two lots have unequal changes of one name."""
    changes = {name_changed(change): change for change in one}
    return any([changes.get(name_changed(change), change) != change for change in other])


def both_changes(one, other):
    """The lot of all changes of two lots that do not meet."""
    changes = {name_changed(change): change for change in one + other}
    return tuple([changes[name] for name in sorted(changes)])
