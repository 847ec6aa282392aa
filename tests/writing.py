"""Lots of changes told once more, by trying all pairs of parts."""

from itertools import chain, combinations

from tests.making import Odd, all_points, odd_values
from whysheets.faults import faults
from whysheets.kinds import kinds
from whysheets.plain import worth
from whysheets.texts import read_cell, read_sheet

# The document's example.
SHEET = read_sheet("input n from 0 to 3 cell a = n cell b = 3 cell ok = a <= b")
PROMISES = ["ok"]
ONE = (("cell", read_cell("cell a = n + 1")), ("cell", read_cell("cell b = 4")))
OTHER = (("cell", read_cell("cell b = 3 + 0")), ("cell", read_cell("cell c = n * 2")))
BAD = (("cell", read_cell("cell b = 2")),)


def name_of(change):
    return change[1][1] if change[0] == "cell" else change[1]


def changed(sheet, lot):
    """The sheet to which a lot leads; None if it does not fit."""
    inputs = {one[1]: one for one in sheet[1]}
    cells = {one[1]: one for one in sheet[2]}
    for change in lot:
        name = name_of(change)
        if (change[0] == "range") != (name in inputs):
            return None
        if change[0] == "range":
            inputs[name] = ("input",) + change[1:]
        elif change[0] == "cell":
            cells[name] = change[1]
        elif name not in cells:
            return None
        else:
            del cells[name]
    return ("sheet", tuple(inputs.values()), tuple(cells.values())) if cells else None


def first_breach(sheet, promises):
    found = faults(sheet)
    if found:
        return ("fault", found[0])
    names = [one[1] for one in sheet[1]]
    for name in promises:
        if name not in [cell[1] for cell in sheet[2] if cell[0] == "cell"] or kinds(sheet)[name] != "truth":
            return ("lacking", name)
        broken = [point for point in all_points(sheet) if worth(sheet, point, name) != 1]
        if broken:
            return ("point", name, min(broken, key=lambda point: [point[one] for one in names]))
    return None


def is_good(sheet, promises, lot):
    behind = changed(sheet, lot)
    return behind is not None and first_breach(behind, promises) is None


def meets(one, other):
    return any(name_of(a) == name_of(b) and a != b for a in one for b in other)


def together(one, other):
    return tuple(sorted(dict.fromkeys(one + other), key=name_of))


def parts_of(lot):
    return list(chain.from_iterable(combinations(lot, k) for k in range(len(lot) + 1)))


def collisions(sheet, promises, one, other):
    """All collisions, with what brings them into order."""
    found = []
    good = {}
    known = lambda lot: good.setdefault(lot, None) if lot in good else good.setdefault(lot, is_good(sheet, promises, lot))
    for first in [part for part in parts_of(one) if known(part)]:
        for second in [part for part in parts_of(other) if known(part)]:
            if meets(first, second) or not known(together(first, second)):
                names = tuple(map(name_of, first)), tuple(map(name_of, second))
                found.append(((len(first) + len(second), len(first)) + names, (first, second)))
    return sorted(found, key=lambda told: told[0])


def some_change(maker, sheet):
    """A change that fits a sheet more often than not."""
    inputs = [one[1] for one in sheet[1]]
    cells = [one[1] for one in sheet[2]]
    word = maker.one_of(("cell", "cell", "cell", "gone", "range"))
    if word == "range":
        low = maker.number(-1, 1)
        return ("range", maker.one_of(inputs), low, low + maker.number(0, 2))
    if word == "gone":
        return ("gone", maker.one_of(cells))
    name = maker.one_of(cells + ["x", "y"])
    if name.startswith("ok"):
        return ("cell", ("cell", name, ("atmost", some_number(maker, inputs, cells), some_number(maker, inputs, cells))))
    return ("cell", ("cell", name, some_number(maker, inputs, cells)))


def some_number(maker, inputs, cells):
    numbers = [name for name in inputs + cells if not name.startswith("ok")]
    part = lambda: ("name", maker.one_of(numbers)) if maker.chance(2) else ("number", maker.number(-1, 3))
    return maker.one_of((part(), part(), ("plus", part(), part()), ("least", part(), part())))


def some_lot(maker, sheet, many):
    found = {}
    for _ in range(many):
        change = some_change(maker, sheet)
        found[name_of(change)] = change
    return tuple(found[name] for name in sorted(found))


def promising_sheet(maker):
    """A sheet with promises that it keeps."""
    while True:
        inputs = tuple(("input", name, 0, maker.number(0, 2)) for name in maker.shuffled("mn"))
        names = [one[1] for one in inputs]
        cells = [("cell", "a", some_number(maker, names, []))]
        cells.append(("cell", "b", some_number(maker, names, ["a"])))
        cells += [("cell", f"ok{k}" if k else "ok", ("atmost", some_number(maker, names, ["a", "b"]), some_number(maker, names, ["a", "b"]))) for k in range(1)]
        cells.append(("cell", "okb", ("less", some_number(maker, names, ["a", "b"]), some_number(maker, names, ["a", "b"]))))
        sheet = ("sheet", inputs, tuple(maker.shuffled(cells)))
        promises = maker.shuffled(["ok", "okb"])[:maker.number(1, 2)]
        if first_breach(sheet, promises) is None:
            return sheet, promises


def bad_lots():
    """Values that are no lots."""
    cell = ONE[0][1]
    return [list(ONE), ONE[::-1], ONE[:1] * 2, (cell,), (("cell", ("input", "a", 0, 1)),), (("cell", cell, 1),), (("cell",),), (["cell", cell],), (("gone", "if"),), (("gone", None),),
            (("gone", ("r", 1)),), (("gone", "a", "b"),), (("gone",),), (("range", "n", 1, 0),), (("range", "n", 0),), (("range", "n", 0, 1000),), (("range", "n", -1000, 1),),
            (("range", "n", False, 1),), (("range", "A", 0, 1),), (("set", cell),), (None,), (Odd(),), ((Odd(), cell),), (("cell", Odd()),), (("gone", "b"), ("gone", "a")),
            (("cell", cell), ("gone", "a")), (("gone", "n"), ("range", "n", 0, 1)), (("gone", "a"), ("range", "abcdefghi", 0, 1)),
            *[thing for thing in odd_values() if not (isinstance(thing, tuple) and thing == ())]]


def bad_promises():
    return [["ok", "ok"], "ok", ["Ok"], ["if"], [None], [("r", 1)], [Odd()], {"ok": True}, [["ok"]], [True],
            *[thing for thing in odd_values() if not (isinstance(thing, (list, tuple)) and all(isinstance(one, str) for one in thing))]]
