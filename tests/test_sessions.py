import unittest

from tests.editing import CELL, SHEET, Told, bad_edits, some_edit, sound_edits
from tests.making import Maker, Odd, all_points, odd_values
from tests.test_plain import FAULTY
from whysheets.edits import edited
from whysheets.errors import (BadEdits, BadNumbers, BadPoint, BadSheet, BadSpot, Faulty, NoPlace, NothingDone, NothingUndone,
                              SheetError)
from whysheets.order import knots, order_of
from whysheets.plain import looked_at, worth, worths
from whysheets.sessions import Session
from whysheets.texts import read_sheet

POINT = {"m": 1, "n": 0}
EXAMPLE = read_sheet("input c from 0 to 1 input n from 0 to 5 cell a = if c == 1 then n else 4 cell b = a * 2")


def spots_in(knot):
    return list(knot) if isinstance(knot, tuple) and isinstance(knot[-1], str) else [knot]


def cell_of(sheet, spot):
    name = spot if isinstance(spot, str) else spot[0]
    return [one for one in sheet[1] + sheet[2] if one[1] == name][0]


def counts_of(sheet):
    return {cell[1]: cell[2] for cell in sheet[2] if cell[0] == "row"}


def names_in(expression):
    """All names that stand in an expression."""
    found = [expression[1]] if expression[0] in ("name", "item", "at", "sum", "fewest", "most") else []
    for part in expression[1:]:
        if isinstance(part, tuple) and part and isinstance(part[0], str):
            found += names_in(part)
        elif isinstance(part, tuple):
            for _, inner in part:
                found += names_in(inner)
    return found


def anew(old, ahead, new, behind):
    """The knots that are worked out anew, told by the four cases of the document."""
    before, after = worths(old, ahead), worths(new, behind)
    inputs = [one[1] for one in old[1]]
    found = []
    for knot in order_of(new):
        spots = spots_in(knot)
        if knot not in knots(old) or knot in inputs:
            found.append(knot)
            continue
        cells = {cell_of(new, spot) for spot in spots}
        rows = [name for cell in cells for part in cell[-1 if cell[0] != "settle" else 4:] for name in names_in(part)]
        looks = {spot for one in spots for spot in looked_at(old, ahead, one)} - set(spots)
        if any(cell_of(old, spot) != cell_of(new, spot) for spot in spots):
            found.append(knot)
        elif any(name in counts_of(new) and counts_of(old).get(name) != counts_of(new)[name] for name in rows):
            found.append(knot)
        elif any(before[spot] != after[spot] for spot in looks):
            found.append(knot)
    return tuple(found)


def followed(sheet, point, edits):
    """The point behind edits."""
    for k, edit in enumerate(edits):
        point = dict(point)
        if edit[0] == "range":
            point[edit[1]] = max(edit[2], min(edit[3], point[edit[1]]))
        elif edit[0] == "fix":
            del point[edit[1]]
        elif edit[0] == "free":
            between = step(sheet, edits[:k])
            point[edit[1]] = cell_of(between, edit[1])[2][1]
    return point


def step(sheet, edits):
    told = Told(sheet)
    for edit in edits:
        told.edit(edit)
    return told.sheet()


def state_of(session):
    return session.sheet(), session.point(), session.worths(), session.done(), session.undone()


class SessionTest(unittest.TestCase):
    def test_example(self):
        session = Session(EXAMPLE, {"c": 0, "n": 3})
        self.assertEqual(session.put({"n": 5}), ())
        self.assertEqual(session.put({"c": 1}), ("a", "b"))
        self.assertEqual(session.put({"n": 4}), ("a", "b"))
        self.assertEqual(session.worth("a"), 4)
        self.assertEqual(session.put({"c": 0}), ("a",))
        self.assertEqual(state_of(session), (EXAMPLE, {"c": 0, "n": 4}, {"a": 4, "b": 8, "c": 0, "n": 4}, 4, 0))

    def test_told(self):
        session = Session(sheet=SHEET, point={"n": 0, "m": 1})
        self.assertEqual(state_of(session), (SHEET, POINT, worths(SHEET, POINT), 0, 0))
        self.assertEqual(list(session.point()), ["m", "n"])
        self.assertEqual(list(session.worths()), list(worths(SHEET, POINT)))
        self.assertEqual(session.worth(spot=("r", 2)), worth(SHEET, POINT, ("r", 2)))
        self.assertEqual(session.put(numbers={}), ())
        self.assertEqual(session.edit(edits=[]), ())
        self.assertEqual((session.done(), session.undone()), (2, 0))
        self.assertIsNone(session.undo())
        self.assertIsNone(session.undo())
        self.assertEqual((session.done(), session.undone()), (0, 2))
        with self.assertRaises(NothingDone):
            session.undo()
        self.assertIsNone(session.redo())
        self.assertEqual((session.done(), session.undone()), (1, 1))
        session.put({"m": 2})
        self.assertEqual((session.done(), session.undone()), (2, 0))
        with self.assertRaises(NothingUndone):
            session.redo()

    def test_the_point_follows(self):
        session = Session(SHEET, {"m": 2, "n": -1})
        session.edit([("range", "m", 0, 1), ("range", "m", 0, 9)])
        self.assertEqual(session.point(), {"m": 1, "n": -1})
        session.edit([("range", "n", 3, 4)])
        self.assertEqual(session.point(), {"m": 1, "n": 3})
        session.edit([("fix", "m", 0, 0), ("free", "k", 0, 7, 0)])
        self.assertEqual(session.point(), {"k": 2, "n": 3})
        session.edit([("fix", "k", 5, 0), ("free", "k", 4, 7, 0), ("free", "m", -3, 0, 0)])
        self.assertEqual(session.point(), {"k": 5, "m": 0, "n": 3})
        for _ in range(4):
            session.undo()
        self.assertEqual((session.sheet(), session.point()), (SHEET, {"m": 2, "n": -1}))

    def test_each_case_of_working_out_anew(self):
        sheet = read_sheet("input m from 0 to 2 input n from 0 to 2 row r of 2 = m * 0 cell s = sum r cell t = n "
                           "settle a from 0 to 3 start n = b settle b from 0 to 3 start 0 = a cell c = a + m")
        session = Session(sheet, {"m": 1, "n": 1})
        self.assertEqual(session.put({"m": 2}), ("c", ("r", 1), ("r", 2)))
        # A new knot, a cell that was set to an equal one, a row with another count and another cell.
        self.assertEqual(session.edit([("set", ("cell", "t", ("name", "n")))]), ())
        self.assertEqual(session.edit([("set", ("cell", "t", ("plus", ("name", "n"), ("number", 0))))]), ("t",))
        self.assertEqual(session.edit([("set", ("row", "r", 3, ("times", ("name", "m"), ("number", 0))))]), (("r", 1), ("r", 2), ("r", 3), "s"))
        self.assertEqual(session.edit([("add", 0, ("cell", "u", ("name", "s")))]), ("u",))
        # What was an input is worked out, although its number stays; what reads it is not.
        self.assertEqual(session.edit([("fix", "n", 1, 0)]), ("n",))
        self.assertEqual(session.edit([("free", "n", 0, 2, 0)]), ())
        # The ring looks at its start, but stays open; a ring of other cells is another knot.
        self.assertEqual(session.put({"n": 2}), (("a", "b"), "t"))
        self.assertEqual(session.edit([("set", ("settle", "b", 0, 3, ("number", 0), ("number", 2)))]), ("b", "a", "c"))
        self.assertEqual(session.worth("a"), 2)
        self.assertEqual(session.put({"n": 0}), ("t",))
        self.assertEqual(session.edit([("set", ("settle", "b", 0, 3, ("number", 0), ("name", "b")))]), (("b",), "a", "c"))
        # A row that comes in the place of a cell of its name.
        other = Session(read_sheet("input m from 0 to 1 cell q = 1 cell v = 2"), {"m": 0})
        self.assertEqual(other.edit([("set", ("row", "q", 1, ("number", 1))), ("set", ("cell", "v", ("sum", "q")))]), (("q", 1), "v"))

    def test_made_sessions(self):
        puts = edits = undone = 0
        for seed in range(120):
            maker = Maker(seed)
            sheet, other = maker.sheet(5, 2, 3), maker.sheet(5, 2, 3)
            point = maker.point(sheet)
            session = Session(sheet, point)
            states = [(sheet, point)]
            at = 0
            for _ in range(10):
                here, now = states[at]
                self.assertEqual(state_of(session), (here, now, worths(here, now), at, len(states) - 1 - at))
                self.assertEqual([session.worth(spot) for spot in worths(here, now)], list(worths(here, now).values()))
                word = maker.one_of(("put", "put", "edit", "edit", "undo", "redo"))
                if word in ("undo", "redo"):
                    if (at == 0) if word == "undo" else (at == len(states) - 1):
                        with self.assertRaises(NothingDone if word == "undo" else NothingUndone):
                            session.undo() if word == "undo" else session.redo()
                    else:
                        undone += 1
                        session.undo() if word == "undo" else session.redo()
                        at += -1 if word == "undo" else 1
                    continue
                if word == "put":
                    numbers = {name: n for name, n in maker.point(here).items() if maker.chance(2)}
                    behind = (here, {**now, **numbers})
                    found = session.put(numbers)
                    puts += 1
                else:
                    told, new = sound_edits(maker, here, other, maker.number(1, 3))
                    behind = (new, followed(here, now, told))
                    found = session.edit(told)
                    edits += 1
                self.assertEqual(found, anew(*states[at], *behind))
                states = states[:at + 1] + [behind]
                at += 1
        self.assertGreater(min(puts, edits, undone), 80)

    def test_what_is_looked_at_alone_counts(self):
        """Nothing is worked out anew where nothing looked at has changed, and something always is where something has."""
        less = 0
        for seed in range(40):
            maker = Maker(seed)
            sheet = maker.sheet(6, 3, 3)
            points = maker.shuffled(all_points(sheet))[:4]
            session = Session(sheet, points[0])
            for point in points:
                before = session.worths()
                found = {spot for knot in session.put(point) for spot in spots_in(knot)}
                inputs = [one[1] for one in sheet[1]]
                for spot, here in session.worths().items():
                    if spot not in found and spot not in inputs:
                        self.assertEqual(here, before[spot])
                    less += spot not in found
        self.assertGreater(less, 100)

    def test_wrong_calls_change_nothing(self):
        session = Session(SHEET, POINT)
        session.put({"m": 2})
        session.edit([("drop", "s")])
        session.undo()
        before = state_of(session)
        for numbers in ({"m": 3}, {"m": -1}, {"m": True}, {"m": None}, {"a": 1}, {"k": 2}, {"z": 0}, {"m": 0, "z": 0}, {1: 1}, {None: 0}, {"m": Odd()}, [("m", 1)],
                        *[thing for thing in odd_values() if thing != {}]):
            with self.assertRaises(BadNumbers):
                session.put(numbers)
        for thing in odd_values():
            if not isinstance(thing, (list, tuple)):
                with self.assertRaises(BadEdits) as caught:
                    session.edit(thing)
                self.assertIsNone(caught.exception.at)
        for thing in bad_edits():
            with self.assertRaises(BadEdits) as caught:
                session.edit([("drop", "nothing"), thing])
            self.assertEqual(caught.exception.at, 1)
        with self.assertRaises(NoPlace) as caught:
            session.edit([("set", CELL[:1] + ("k", ("number", 1))), ("drop", "nothing")])
        self.assertEqual(caught.exception.at, 1)
        with self.assertRaises(Faulty) as caught:
            session.edit([("drop", "a")])
        self.assertEqual(caught.exception.fault[1:], ("unknown", "a"))
        for spot in ("r", ("r", 3), "z", *odd_values()):
            if not isinstance(spot, str) or spot not in ("a", "m"):
                with self.assertRaises(BadSpot):
                    session.worth(spot)
        self.assertEqual(state_of(session), before)
        session.redo()
        with self.assertRaises(NothingUndone):
            session.redo()
        self.assertEqual(session.sheet(), edited(SHEET, [("drop", "s")]))

    def test_what_is_passed_or_returned_may_be_changed(self):
        point, numbers, edits = dict(POINT), {"m": 2}, [("drop", "s")]
        session = Session(SHEET, point)
        point["m"] = 0
        self.assertEqual(session.point(), POINT)
        session.put(numbers)
        session.edit(edits)
        before = state_of(session)
        numbers["m"] = 0
        edits.append(None)
        session.point()["m"] = 7
        session.worths().clear()
        self.assertEqual(state_of(session), before)

    def test_some_edits(self):
        """Edits that may have no place, or lead to faults: then nothing is changed."""
        refused = 0
        for seed in range(150):
            maker = Maker(seed)
            sheet, other = maker.sheet(4, 2, 3), maker.sheet(4, 2, 3)
            session = Session(sheet, maker.point(sheet))
            before = state_of(session)
            told = [some_edit(maker, sheet, other) for _ in range(2)]
            try:
                wanted = edited(sheet, told)
            except SheetError as error:
                refused += 1
                with self.assertRaises(type(error)):
                    session.edit(told)
                self.assertEqual(state_of(session), before)
            else:
                session.edit(told)
                self.assertEqual(session.sheet(), wanted)
        self.assertGreater(refused, 30)

    def test_errors(self):
        for thing in odd_values():
            with self.assertRaises(BadSheet):
                Session(thing, None)
            with self.assertRaises(BadPoint):
                Session(SHEET, thing)
        with self.assertRaises(Faulty):
            Session(FAULTY, None)
        for point in ({"m": 0}, {**POINT, "z": 0}, {"m": 3, "n": 0}, {"m": True, "n": 0}):
            with self.assertRaises(BadPoint):
                Session(SHEET, point)


if __name__ == "__main__":
    unittest.main()
