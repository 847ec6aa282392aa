"""Edits told once more, on dicts and lists of names."""

from tests.making import Odd, odd_values
from whysheets.faults import is_sound
from whysheets.texts import read_sheet

SHEET = read_sheet("input m from 0 to 2 input n from -1 to 1 cell a = m + n row r of 2 = a * place cell b = sum r settle s from 0 to 3 start b = s + m cell k = 2")
CELL = ("cell", "z", ("number", 1))


class Told:
    """Inputs and cells as lists of names, and a dict of what stands behind them."""

    def __init__(self, sheet):
        self.inputs = [one[1] for one in sheet[1]]
        self.cells = [one[1] for one in sheet[2]]
        self.things = {one[1]: one for one in sheet[1] + sheet[2]}

    def sheet(self):
        return ("sheet", tuple(self.things[name] for name in self.inputs), tuple(self.things[name] for name in self.cells))

    def edit(self, edit):
        """Whether the edit has a place; if it has one, it is done."""
        word, *told = edit
        if word == "set":
            cell = told[0]
            if cell[1] not in self.cells:
                return False
            self.things[cell[1]] = cell
        elif word == "add":
            at, cell = told
            if cell[1] in self.things or at > len(self.cells):
                return False
            self.cells.insert(at, cell[1])
            self.things[cell[1]] = cell
        elif word == "drop":
            if told[0] not in self.cells or len(self.cells) < 2:
                return False
            self.cells.remove(told[0])
            del self.things[told[0]]
        elif word == "range":
            if told[0] not in self.inputs:
                return False
            self.things[told[0]] = ("input", *told)
        elif word == "fix":
            name, n, at = told
            if name not in self.inputs or len(self.inputs) < 2 or at > len(self.cells) or n not in range(self.things[name][2], self.things[name][3] + 1):
                return False
            self.inputs.remove(name)
            self.cells.insert(at, name)
            self.things[name] = ("cell", name, ("number", n))
        else:
            name, low, high, at = told
            if name not in self.cells or len(self.cells) < 2 or at > len(self.inputs):
                return False
            if self.things[name][0] != "cell" or self.things[name][2][0] != "number" or self.things[name][2][1] not in range(low, high + 1):
                return False
            self.cells.remove(name)
            self.inputs.insert(at, name)
            self.things[name] = ("input", name, low, high)
        return True


def some_edit(maker, sheet, other):
    """An edit that has a place in a sheet more often than not; other is a sheet from which cells are taken."""
    told = Told(sheet)
    word = maker.one_of(("set", "set", "add", "drop", "range", "fix", "free"))
    inputs, cells = told.inputs, told.cells
    if word == "set":
        if maker.chance(2):
            return ("set", maker.one_of(other[2]))
        return ("set", ("cell", maker.one_of(cells), ("number", maker.number(-2, 2))))
    if word == "add":
        if maker.chance(2):
            return ("add", maker.number(0, len(cells)), maker.one_of(other[2]))
        return ("add", maker.number(0, len(cells)), ("cell", maker.one_of("stvxyz"), ("name", maker.one_of(inputs))))
    if word == "drop":
        return ("drop", maker.one_of(cells))
    if word == "range":
        low = maker.number(-2, 1)
        return ("range", maker.one_of(inputs), low, low + maker.number(0, 3))
    if word == "fix":
        return ("fix", maker.one_of(inputs), maker.number(-1, 2), maker.number(0, len(cells)))
    fixed = [one for one in sheet[2] if one[0] == "cell" and one[2][0] == "number"]
    if not fixed:
        return ("drop", maker.one_of(cells))
    cell = maker.one_of(fixed)
    return ("free", cell[1], cell[2][1] - maker.number(0, 2), cell[2][1] + maker.number(0, 2), maker.number(0, len(inputs)))


def sound_edits(maker, sheet, other, many):
    """A list of edits all of which have a place, each behind the others, so that the last sheet is sound."""
    while True:
        told = Told(sheet)
        edits = []
        for _ in range(many):
            edit = some_edit(maker, told.sheet(), other)
            if told.edit(edit):
                edits.append(edit)
        if is_sound(told.sheet()):
            return edits, told.sheet()


def bad_edits():
    """Values that are no edits."""
    return [("set",), ("set", CELL, 1), ("set", ("input", "z", 0, 1)), ("set", ("cell", "z", ("place",))), ("set", list(CELL)), ["set", CELL], ("set", "a"), ("put", CELL),
            ("add", CELL), ("add", -1, CELL), ("add", True, CELL), ("add", None, CELL), ("add", 0, "z"), ("add", CELL, 0), ("drop",), ("drop", "if"), ("drop", "A"), ("drop", None),
            ("drop", "a", "b"), ("drop", ("r", 1)), ("range", "m", 0), ("range", "m", 1, 0), ("range", "m", 0, 1000), ("range", "m", -1000, 0), ("range", "m", False, True),
            ("range", "row", 0, 1), ("range", "m", 0, 1, 2), ("fix", "m", 0), ("fix", "m", 1000, 0), ("fix", "m", 0, -1), ("fix", "m", 0, True), ("fix", "m", None, 0),
            ("fix", "abcdefghi", 0, 0), ("free", "k", 0, 5), ("free", "k", 5, 0, 0), ("free", "k", 0, 1000, 0), ("free", "k", 0, 5, -1), ("free", "k", 0, 5, None), ("free", 1, 0, 5, 0),
            (Odd(), CELL), ("set", Odd()), ("add", Odd(), CELL), ("drop", Odd()), *odd_values()]


def small_sheet(maker):
    """A sheet of a few cells with few names, and always the same inputs."""
    inputs = tuple(("input", name, 0, maker.number(0, 1)) for name in ("m", "n"))
    names = maker.shuffled("abcd")[:maker.number(1, 4)]
    return ("sheet", inputs, tuple(("cell", name, ("number", maker.number(0, 1))) for name in names))
