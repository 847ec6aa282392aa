"""Sheets that are equal but for their names."""

from whysheets.errors import BadNames, BadSheet
from whysheets.shapes import names_in, renamed
from whysheets.trees import is_sheet
from whysheets.words import is_name


def with_names(sheet, names):
    """The sheet with other names in the place of some of its names."""
    if not is_sheet(sheet):
        raise BadSheet("no sheet")
    if not is_renaming(names):
        raise BadNames("no dict from names to different names")
    known = names_of(sheet)
    if not are_different([names.get(name, name) for name in known]):
        raise BadNames("two names of the sheet become one")
    return sheet_renamed(sheet, names)


def is_like(one, other):
    """Whether two sheets are equal but for their names."""
    for sheet in (one, other):
        if not is_sheet(sheet):
            raise BadSheet("no sheet")
    return nameless(one) == nameless(other)


def nameless(sheet):
    """The sheet with numbers for its names, in the order in which these come."""
    return sheet_renamed(sheet, {name: k for k, name in enumerate(names_of(sheet))})


def sheet_renamed(sheet, names):
    """The sheet with what a dict tells in the place of its names."""
    inputs = [renamed(thing, names) for thing in sheet[1]]
    cells = [renamed(thing, names) for thing in sheet[2]]
    return ("sheet", tuple(inputs), tuple(cells))


def names_of(sheet):
    """The list of all names that stand in a sheet, each once, as they come."""
    found = {}
    for thing in sheet[1] + sheet[2]:
        for name in names_in(thing):
            found[name] = True
    return list(found)


def is_renaming(thing):
    """Whether any value is a dict from names to names, different ones for different ones."""
    if not isinstance(thing, dict):
        return False
    if not all([is_name(old) and is_name(new) for old, new in thing.items()]):
        return False
    return are_different(list(thing.values()))


def are_different(names):
    """Whether no name stands twice in a list."""
    return len({name: True for name in names}) == len(names)
