import unittest

from tests.editing import SHEET, Told, small_sheet, sound_edits
from tests.making import Maker, odd_values
from tests.test_plain import FAULTY
from whysheets.differences import difference, distance
from whysheets.edits import edited
from whysheets.errors import BadSheet, Faulty, OtherInputs
from whysheets.texts import read_sheet


def steps_from(sheet, numbers=(0, 1)):
    """All sheets to which one edit leads, of cells with small numbers."""
    found = set()
    names = sorted({"a", "b", "c", "d"} | {one[1] for one in sheet[1] + sheet[2]})
    edits = [("set", ("cell", name, ("number", n))) for name in names for n in numbers]
    edits += [("add", at, ("cell", name, ("number", n))) for name in names for n in numbers for at in range(len(sheet[2]) + 1)]
    edits += [("drop", name) for name in names]
    edits += [("range", name, 0, n) for name in names for n in numbers]
    edits += [("fix", name, n, at) for name in names for n in numbers for at in range(len(sheet[2]) + 1)]
    edits += [("free", name, 0, n, at) for name in names for n in numbers for at in range(len(sheet[1]) + 1)]
    for edit in edits:
        told = Told(sheet)
        if told.edit(edit):
            found.add(told.sheet())
    return found


def around(sheet, many):
    """The sheets that so many edits and fewer lead to."""
    found = {sheet}
    front = {sheet}
    for _ in range(many):
        front = {one for here in front for one in steps_from(here)} - found
        found |= front
    return found


class DifferencesTest(unittest.TestCase):
    def test_by_hand(self):
        self.assertEqual((difference(SHEET, SHEET), distance(SHEET, SHEET)), ([], 0))
        one = read_sheet("input m from 0 to 1 cell a = m cell b = 2 cell c = a")
        for text, many in (("input m from 0 to 2 cell a = m cell b = 2 cell c = a", 1), ("input m from 0 to 1 cell a = m cell b = 3 cell c = a", 1),
                           ("input m from 0 to 1 cell b = 2 cell a = m cell c = a", 2), ("input m from 0 to 1 cell c = a cell a = m cell b = 2", 2),
                           ("input m from 0 to 1 cell c = a cell b = 2 cell a = m", 4), ("input m from 0 to 1 cell a = m cell c = a", 1),
                           ("input m from 0 to 1 cell a = m cell d = 1 cell b = 2 cell c = a", 1), ("input m from 0 to 1 cell d = m", 4),
                           ("input m from 3 to 4 cell b = 7 cell a = m", 4), ("input m from 0 to 1 cell b = 5", 3), ("input m from 0 to 1 row a of 2 = m", 3)):
            other = read_sheet(text)
            found = difference(old=one, new=other)
            self.assertEqual(len(found), many, text)
            self.assertEqual(distance(old=one, new=other), many)
            self.assertEqual(distance(other, one), many)
            self.assertEqual(edited(one, found), other)

    def test_a_cell_set_rather_than_moved(self):
        """Of two cells that change places, the one that changes as well is the one that is moved."""
        one = read_sheet("input m from 0 to 1 cell a = 1 cell b = 2 cell c = 3")
        other = read_sheet("input m from 0 to 1 cell c = 4 cell a = 1 cell b = 5")
        self.assertEqual(distance(one, other), 3)
        self.assertEqual(edited(one, difference(one, other)), other)

    def test_many_cells_set_rather_than_one_kept(self):
        """Three cells that are set are worth more than one that could be left as it is, two are worth as much."""
        for count, many in ((3, 5), (2, 4), (1, 2)):
            names = "abc"[:count]
            one = read_sheet("input m from 0 to 1 cell x = 9 " + " ".join(f"cell {name} = 1" for name in names))
            other = read_sheet("input m from 0 to 1 " + " ".join(f"cell {name} = 2" for name in names) + " cell x = 9")
            for old, new in ((one, other), (other, one)):
                self.assertEqual(distance(old, new), many)
                self.assertEqual(edited(old, difference(old, new)), new)

    def test_as_short_as_can_be(self):
        met = {}
        for seed in range(40):
            maker = Maker(seed)
            old, new = small_sheet(maker), small_sheet(maker)
            found = difference(old, new)
            self.assertEqual(edited(old, found), new)
            self.assertEqual((distance(old, new), distance(new, old)), (len(found), len(found)))
            met[min(len(found), 5)] = met.get(min(len(found), 5), 0) + 1
            # No fewer edits lead there: the sheets that half of them reach from both ends have none in common.
            if 0 < len(found) <= 4:
                fewer = len(found) - 1
                self.assertFalse(around(old, fewer // 2) & around(new, fewer - fewer // 2), (old, new))
        self.assertGreater(len(met), 3)

    def test_made_sheets(self):
        for seed in range(150):
            maker = Maker(seed)
            old, other = maker.sheet(5, 2, 3), maker.sheet(5, 2, 3)
            edits, new = sound_edits(maker, old, other, maker.number(1, 5))
            if [one[1] for one in old[1]] != [one[1] for one in new[1]]:
                with self.assertRaises(OtherInputs):
                    difference(old, new)
                continue
            found = difference(old, new)
            self.assertLessEqual(len(found), len(edits))
            self.assertEqual(edited(old, found), new)
            self.assertEqual(distance(new, old), len(found))
            if maker.chance(2):
                # The same cells in another order.
                new = ("sheet", old[1], tuple(maker.shuffled(old[2])))
                found = difference(old, new)
                self.assertEqual(edited(old, found), new)
                self.assertEqual({edit[0] for edit in found} - {"drop", "add"}, set())

    def test_errors(self):
        other = read_sheet("input n from -1 to 1 input m from 0 to 2 cell a = m")
        for function in (difference, distance):
            for thing in odd_values():
                with self.assertRaises(BadSheet):
                    function(thing, FAULTY)
                with self.assertRaises(BadSheet):
                    function(SHEET, thing)
            for old, new in ((FAULTY, None), (SHEET, FAULTY), (FAULTY, SHEET)):
                with self.assertRaises(Faulty) as caught:
                    function(old, new)
                self.assertEqual(caught.exception.fault, ((2, 0, 2), "unknown", "x"))
            for new in (other, read_sheet("input m from 0 to 2 cell a = m"), read_sheet("input m from 0 to 2 input n from 0 to 0 input k from 0 to 0 cell a = 1")):
                with self.assertRaises(OtherInputs):
                    function(SHEET, new)


if __name__ == "__main__":
    unittest.main()
