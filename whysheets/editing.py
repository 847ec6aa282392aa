"""The forms of edits, and the sheets and points to which they lead."""

from whysheets.errors import BadEdits, Faulty, NoPlace
from whysheets.faults import faults_of
from whysheets.frames import Frame
from whysheets.shapes import GREATEST, LEAST
from whysheets.trees import is_cell
from whysheets.values import brought, is_list, is_number, is_number_from
from whysheets.words import is_name

# What stands behind the word of an edit: c a cell, x a name, n a number of a range or a cell, k a place from 0 on.
FORMS = {"set": "c", "add": "kc", "drop": "x", "range": "xnn", "fix": "xnk", "free": "xnnk"}


def has_edit_form(thing):
    """Whether any value is an edit, by its form."""
    if not isinstance(thing, tuple) or not thing or not isinstance(thing[0], str) or thing[0] not in FORMS:
        return False
    form = FORMS[thing[0]]
    if len(thing) != len(form) + 1 or not all([fits(slot, thing[k + 1]) for k, slot in enumerate(form)]):
        return False
    return thing[0] not in ("range", "free") or thing[2] <= thing[3]


def fits(slot, thing):
    """Whether any value can stand in a slot of an edit."""
    if slot == "c":
        return is_cell(thing)
    if slot == "x":
        return is_name(thing)
    if slot == "n":
        return is_number_from(thing, LEAST, GREATEST)
    return is_number(thing) and thing >= 0


def want_edits(edits):
    """Raises BadEdits for what is no list of edits."""
    if not is_list(edits):
        raise BadEdits(None)
    for at, edit in enumerate(edits):
        if not has_edit_form(edit):
            raise BadEdits(at)


def sheets_along(sheet, edits):
    """The list of the sheet and those to which edits lead; BadEdits, NoPlace, then Faulty for the last one."""
    want_edits(edits)
    found = [sheet]
    for at, edit in enumerate(edits):
        behind = sheet_behind(found[-1], edit)
        if behind is None:
            raise NoPlace(at)
        found.append(behind)
    wrong = faults_of(Frame(found[-1]))
    if wrong:
        raise Faulty(wrong[0])
    return found


def sheet_behind(sheet, edit):
    """The sheet to which an edit leads; None if it has no place."""
    step = STEPS[edit[0]]
    return step(sheet[1], sheet[2], edit)


def index_of(things, name):
    """The index of the input or cell with a name; None if there is none."""
    names = [thing[1] for thing in things]
    return names.index(name) if name in names else None


def made_of(inputs, cells):
    """The sheet of some inputs and cells."""
    return ("sheet", inputs, cells)


def without_at(things, at):
    """The things without the one at an index."""
    return things[:at] + things[at + 1:]


def with_at(things, at, thing):
    """The things with a further one behind so many others."""
    return things[:at] + (thing,) + things[at:]


def step_set(inputs, cells, edit):
    """A cell takes the place of the one with its name."""
    at = index_of(cells, edit[1][1])
    return None if at is None else made_of(inputs, with_at(without_at(cells, at), at, edit[1]))


def step_add(inputs, cells, edit):
    """A further cell."""
    if edit[1] > len(cells) or index_of(inputs + cells, edit[2][1]) is not None:
        return None
    return made_of(inputs, with_at(cells, edit[1], edit[2]))


def step_drop(inputs, cells, edit):
    """A cell goes, and another one is left."""
    at = index_of(cells, edit[1])
    return None if at is None or len(cells) == 1 else made_of(inputs, without_at(cells, at))


def step_range(inputs, cells, edit):
    """An input gets another range."""
    _, name, low, high = edit
    at = index_of(inputs, name)
    return None if at is None else made_of(with_at(without_at(inputs, at), at, ("input", name, low, high)), cells)


def step_fix(inputs, cells, edit):
    """An input becomes a cell with a number, and another input is left."""
    _, name, number, place = edit
    at = index_of(inputs, name)
    if at is None or len(inputs) == 1 or place > len(cells) or not inputs[at][2] <= number <= inputs[at][3]:
        return None
    return made_of(without_at(inputs, at), with_at(cells, place, ("cell", name, ("number", number))))


def step_free(inputs, cells, edit):
    """A cell with a number becomes an input, and another cell is left."""
    _, name, low, high, place = edit
    at = index_of(cells, name)
    if at is None or len(cells) == 1 or place > len(inputs):
        return None
    cell = cells[at]
    if cell[0] != "cell" or cell[2][0] != "number" or not low <= cell[2][1] <= high:
        return None
    return made_of(with_at(inputs, place, ("input", name, low, high)), without_at(cells, at))


STEPS = {"set": step_set, "add": step_add, "drop": step_drop, "range": step_range, "fix": step_fix, "free": step_free}


def edit_back(sheet, edit):
    """The edit that leads back to a sheet from the one to which an edit leads."""
    _, inputs, cells = sheet
    word = edit[0]
    if word == "set":
        return ("set", cells[index_of(cells, edit[1][1])])
    if word == "add":
        return ("drop", edit[2][1])
    name = edit[1]
    if word == "range":
        return inputs_range(inputs[index_of(inputs, name)])
    if word == "fix":
        at = index_of(inputs, name)
        return ("free", name, inputs[at][2], inputs[at][3], at)
    at = index_of(cells, name)
    return ("add", at, cells[at]) if word == "drop" else ("fix", name, cells[at][2][1], at)


def inputs_range(thing):
    """The edit that gives an input the range that it has."""
    return ("range", thing[1], thing[2], thing[3])


def point_behind_edit(sheet, point, edit):
    """The numbers of a point of a sheet as they follow an edit of it."""
    word, name = edit[0], edit[1]
    made = {one: point[one] for one in point}
    if word == "range":
        made[name] = brought(point[name], edit[2], edit[3])
    elif word == "free":
        made[name] = sheet[2][index_of(sheet[2], name)][2][1]
    elif word == "fix":
        made = {one: point[one] for one in point if one != name}
    return {one: made[one] for one in sorted(made)}
