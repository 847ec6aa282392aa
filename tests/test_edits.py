import unittest

from tests.editing import CELL, SHEET, Told, bad_edits, some_edit, sound_edits
from tests.making import Maker, odd_values
from tests.test_plain import FAULTY
from whysheets.edits import edited, inverse, is_edit
from whysheets.errors import BadEdits, BadSheet, Faulty, NoPlace
from whysheets.faults import faults
from whysheets.texts import read_cell, read_sheet, sheet_text


def cells_of(sheet):
    return [cell[1] for cell in sheet[2]]


class EditsTest(unittest.TestCase):
    def test_is_edit(self):
        for edit in (("set", CELL), ("add", 0, CELL), ("add", 99, CELL), ("drop", "z"), ("range", "m", 0, 0), ("range", "m", -999, 999), ("fix", "m", 5, 99), ("free", "k", 0, 9, 99),
                     ("free", "k", -999, 999, 0), ("set", read_cell("row r of 3 = place")), ("set", read_cell("settle s from 0 to 1 start 0 = s"))):
            self.assertIs(is_edit(edit), True, edit)
        for thing in bad_edits():
            self.assertIs(is_edit(thing), False, thing)
        self.assertIs(is_edit(thing=("drop", "z")), True)

    def test_each_kind(self):
        self.assertEqual(edited(SHEET, []), SHEET)
        self.assertEqual(edited(SHEET, ()), SHEET)
        set_ = ("cell", "b", ("name", "m"))
        self.assertEqual(edited(SHEET, [("set", set_)])[2], SHEET[2][:2] + (set_,) + SHEET[2][3:])
        for at in (0, 2, 5):
            self.assertEqual(edited(sheet=SHEET, edits=[("add", at, CELL)])[2], SHEET[2][:at] + (CELL,) + SHEET[2][at:])
        self.assertEqual(edited(SHEET, [("drop", "k")])[2], SHEET[2][:4])
        self.assertEqual(edited(SHEET, [("range", "n", 4, 7)])[1], (("input", "m", 0, 2), ("input", "n", 4, 7)))
        fixed = edited(SHEET, [("fix", "m", 2, 3)])
        self.assertEqual(fixed[1], SHEET[1][1:])
        self.assertEqual(fixed[2], SHEET[2][:3] + (("cell", "m", ("number", 2)),) + SHEET[2][3:])
        for at in (0, 1, 2):
            freed = edited(SHEET, [("free", "k", 1, 5, at)])
            self.assertEqual(freed, ("sheet", SHEET[1][:at] + (("input", "k", 1, 5),) + SHEET[1][at:], SHEET[2][:4]))
        # Sheets between may have faults.
        moved = edited(SHEET, [("drop", "a"), ("add", 4, SHEET[2][0])])
        self.assertEqual(cells_of(moved), ["r", "b", "s", "k", "a"])
        self.assertEqual(edited(SHEET, [("fix", "m", 0, 0), ("free", "m", 0, 2, 0)]), SHEET)

    def test_inverse(self):
        self.assertEqual(inverse(SHEET, []), [])
        for edit, back in ((("set", ("cell", "b", ("name", "m"))), ("set", SHEET[2][2])), (("add", 2, CELL), ("drop", "z")), (("drop", "k"), ("add", 4, SHEET[2][4])),
                           (("range", "n", 4, 7), ("range", "n", -1, 1)), (("fix", "n", 0, 2), ("free", "n", -1, 1, 1)), (("free", "k", 1, 5, 1), ("fix", "k", 2, 4))):
            self.assertEqual(inverse(sheet=SHEET, edits=(edit,)), [back])
            self.assertEqual(inverse(edited(SHEET, [edit]), [back])[0], edit)
        self.assertEqual(inverse(SHEET, [("drop", "a"), ("add", 4, SHEET[2][0])]), [("drop", "a"), ("add", 0, SHEET[2][0])])

    def test_no_place(self):
        one_input = read_sheet("input m from 0 to 1 cell a = m cell k = 1")
        one_cell = read_sheet("input m from 0 to 1 input n from 0 to 1 cell k = 1")
        for sheet, edit in ((SHEET, ("set", CELL)), (SHEET, ("set", ("cell", "m", ("number", 1)))), (SHEET, ("add", 6, CELL)), (SHEET, ("add", 0, SHEET[2][0])),
                            (SHEET, ("add", 0, ("cell", "m", ("number", 1)))), (SHEET, ("drop", "z")), (SHEET, ("drop", "m")), (one_cell, ("drop", "k")),
                            (SHEET, ("range", "a", 0, 1)), (SHEET, ("range", "z", 0, 1)), (SHEET, ("fix", "a", 0, 0)), (SHEET, ("fix", "z", 0, 0)), (SHEET, ("fix", "m", 3, 0)),
                            (SHEET, ("fix", "m", -1, 0)), (SHEET, ("fix", "m", 0, 6)), (one_input, ("fix", "m", 0, 0)), (SHEET, ("free", "a", 0, 1, 0)), (SHEET, ("free", "z", 0, 1, 0)),
                            (SHEET, ("free", "m", 0, 2, 0)), (SHEET, ("free", "r", 0, 2, 0)), (SHEET, ("free", "k", 0, 1, 0)), (SHEET, ("free", "k", 3, 9, 0)),
                            (SHEET, ("free", "k", 0, 9, 3)), (one_cell, ("free", "k", 0, 1, 0))):
            for function in (edited, inverse):
                with self.assertRaises(NoPlace) as caught:
                    function(sheet, [edit])
                self.assertEqual(caught.exception.at, 0, edit)
        with self.assertRaises(NoPlace) as caught:
            edited(SHEET, [("add", 0, CELL), ("add", 0, CELL), ("drop", "none")])
        self.assertEqual(caught.exception.at, 1)
        # Places are judged in the sheet to which those ahead lead.
        self.assertEqual(cells_of(edited(SHEET, [("add", 5, CELL), ("add", 6, ("cell", "y", ("number", 1)))]))[-2:], ["z", "y"])

    def test_errors(self):
        for function in (edited, inverse):
            for thing in odd_values():
                with self.assertRaises(BadSheet):
                    function(thing, None)
                if not isinstance(thing, (list, tuple)):
                    with self.assertRaises(BadEdits) as caught:
                        function(SHEET, thing)
                    self.assertIsNone(caught.exception.at)
            with self.assertRaises(Faulty):
                function(FAULTY, None)
            for thing in bad_edits():
                # What is no edit goes ahead of what has no place.
                for edits, at in (([thing], 0), ((("set", CELL), thing, None), 1)):
                    with self.assertRaises(BadEdits) as caught:
                        function(SHEET, edits)
                    self.assertEqual(caught.exception.at, at)
            with self.assertRaises(Faulty) as caught:
                function(SHEET, [("drop", "a")])
            self.assertEqual(caught.exception.fault, ((2, 0, 3, 1), "unknown", "a"))
            # What has no place goes ahead of the faults of the last sheet.
            with self.assertRaises(NoPlace) as caught:
                function(SHEET, [("drop", "a"), ("drop", "nothing")])
            self.assertEqual(caught.exception.at, 1)
            with self.assertRaises(Faulty) as caught:
                function(SHEET, [("set", ("cell", "a", ("name", "b"))), ("range", "m", 0, 0)])
            self.assertEqual(caught.exception.fault, faults(edited_by(SHEET, ("set", ("cell", "a", ("name", "b")))))[0])

    def test_made_edits(self):
        placed = missed = wrong = 0
        for seed in range(250):
            maker = Maker(seed)
            sheet, other = maker.sheet(4, 2, 3), maker.sheet(4, 2, 3)
            told = Told(sheet)
            edits = []
            for _ in range(maker.number(1, 4)):
                edits.append(some_edit(maker, told.sheet(), other))
                if not told.edit(edits[-1]):
                    break
            else:
                found = faults(told.sheet())
                if found:
                    wrong += 1
                    with self.assertRaises(Faulty) as caught:
                        edited(sheet, edits)
                    self.assertEqual(caught.exception.fault, found[0])
                else:
                    placed += 1
                    self.assertEqual(edited(sheet, edits), told.sheet())
                continue
            missed += 1
            with self.assertRaises(NoPlace) as caught:
                edited(sheet, edits + [("drop", "nothing")])
            self.assertEqual(caught.exception.at, len(edits) - 1)
        self.assertGreater(min(placed, missed, wrong), 20)

    def test_there_and_back(self):
        many = 0
        for seed in range(120):
            maker = Maker(seed)
            sheet, other = maker.sheet(4, 2, 3), maker.sheet(4, 2, 3)
            edits, wanted = sound_edits(maker, sheet, other, maker.number(1, 5))
            found = edited(sheet, edits)
            self.assertEqual(found, wanted)
            back = inverse(sheet, edits)
            self.assertEqual(len(back), len(edits))
            self.assertEqual(edited(found, back), sheet)
            # Of an inverse the inverse leads there again, by edits of the same kinds.
            again = inverse(found, back)
            self.assertEqual([edit[0] for edit in again], [edit[0] for edit in edits])
            self.assertEqual(edited(sheet, again), found)
            self.assertEqual(read_sheet(sheet_text(found)), found)
            many += len(edits) > 1
        self.assertGreater(many, 50)


def edited_by(sheet, edit):
    told = Told(sheet)
    told.edit(edit)
    return told.sheet()


if __name__ == "__main__":
    unittest.main()
