import unittest

from tests.editing import SHEET as OLD, sound_edits
from tests.making import Maker, odd_values
from tests.test_plain import FAULTY
from tests.writing import (BAD, ONE, OTHER, PROMISES, SHEET, bad_lots, bad_promises, changed as told_changed, collisions, first_breach,
                           is_good, meets, promising_sheet, some_lot, together)
from whysheets.errors import (BadLot, BadPromises, BadSheet, Broken, Collides, Faulty, NotGood, OtherInputs, Unfit)
from whysheets.faults import faults
from whysheets.texts import read_cell, read_sheet, sheet_text
from whysheets.writers import breach, changed, collision, joined, lot_between


def one_cell(text):
    return ("cell", read_cell(text))


class WritersTest(unittest.TestCase):
    def test_example(self):
        pair = ((one_cell("cell b = 4"),), (one_cell("cell b = 3 + 0"),))
        self.assertEqual(collision(SHEET, ["ok"], ONE, OTHER), pair)
        with self.assertRaises(Collides) as caught:
            joined(SHEET, ["ok"], ONE, OTHER)
        self.assertEqual((caught.exception.first, caught.exception.second), pair)
        self.assertIsNone(breach(SHEET, PROMISES))

    def test_changed(self):
        self.assertEqual(changed(SHEET, ()), SHEET)
        self.assertEqual(sheet_text(changed(sheet=SHEET, lot=ONE)), "input n from 0 to 3\ncell a = n + 1\ncell b = 4\ncell ok = a <= b\n")
        self.assertEqual(sheet_text(changed(SHEET, OTHER)), "input n from 0 to 3\ncell a = n\ncell b = 3 + 0\ncell ok = a <= b\ncell c = n * 2\n")
        lot = (one_cell("cell aa = 1"), ("gone", "b"), ("range", "n", 5, 7), ("gone", "ok"), one_cell("row z of 2 = 1"))
        self.assertEqual(sheet_text(changed(SHEET, lot)), "input n from 5 to 7\ncell a = n\ncell aa = 1\nrow z of 2 = 1\n")
        # All cells may go where one comes.
        lot = (("gone", "a"), ("gone", "b"), one_cell("cell c = 1"), ("gone", "ok"))
        self.assertEqual(sheet_text(changed(SHEET, lot)), "input n from 0 to 3\ncell c = 1\n")
        # It may have faults, and so may the sheet.
        self.assertEqual(faults(changed(SHEET, (("gone", "a"),))), [((2, 1, 2, 1), "unknown", "a")])
        double = ("sheet", SHEET[1] * 2, SHEET[2] + SHEET[2][:1])
        self.assertEqual(changed(double, ONE[:1] + (("range", "n", 1, 2),)), ("sheet", (("input", "n", 1, 2),) * 2, (ONE[0][1],) + SHEET[2][1:] + (ONE[0][1],)))
        for lot in ((("range", "a", 0, 1),), (("range", "z", 0, 1),), (("gone", "n"),), (one_cell("cell n = 1"),), (("gone", "z"),), (("gone", "a"), ("gone", "b"), ("gone", "ok")),
                    ONE + (("gone", "z"),)):
            with self.assertRaises(Unfit):
                changed(SHEET, lot)

    def test_lot_between(self):
        self.assertEqual(lot_between(SHEET, SHEET), ())
        self.assertEqual(lot_between(old=SHEET, new=changed(SHEET, ONE)), ONE)
        new = read_sheet("input n from 0 to 4 cell ok = a <= c cell c = 3 cell a = n")
        self.assertEqual(lot_between(SHEET, new), (("gone", "b"), one_cell("cell c = 3"), ("range", "n", 0, 4), one_cell("cell ok = a <= c")))
        many = 0
        for seed in range(120):
            maker = Maker(seed)
            old, other = maker.sheet(5, 2, 3), maker.sheet(5, 2, 3)
            _, new = sound_edits(maker, old, other, maker.number(1, 5))
            if [one[1] for one in old[1]] != [one[1] for one in new[1]]:
                with self.assertRaises(OtherInputs):
                    lot_between(old, new)
                continue
            lot = lot_between(old, new)
            behind = changed(old, lot)
            self.assertEqual((behind[1], sorted(behind[2])), (new[1], sorted(new[2])))
            for k in range(len(lot)):
                less = told_changed(old, lot[:k] + lot[k + 1:])
                self.assertTrue(less is None or (less[1], sorted(less[2])) != (new[1], sorted(new[2])))
            many += len(lot) > 1
        self.assertGreater(many, 20)

    def test_breach(self):
        sheet = read_sheet("input n from 0 to 2 input m from -1 to 1 cell a = n cell t = m + n < 3 row r of 2 = 1 < 2 settle s from 0 to 1 start 0 = s cell u = t and m < 1 "
                           "settle o from 0 to 1 start 0 = if n == 1 then 1 - o else o cell v = o == 0 cell w = 1 < 2")
        for promises, wanted in (([], None), (["w"], None), (["w", "a"], ("lacking", "a")), (["n"], ("lacking", "n")), (["r"], ("lacking", "r")), (["s"], ("lacking", "s")),
                                 (["zz"], ("lacking", "zz")), (["t"], ("point", "t", {"m": 1, "n": 2})), (["zz", "t"], ("lacking", "zz")), (["t", "zz"], ("point", "t", {"m": 1, "n": 2})),
                                 (["w", "u"], ("point", "u", {"m": 1, "n": 0})), (["v"], ("point", "v", {"m": -1, "n": 1}))):
            found = breach(sheet=sheet, promises=promises)
            self.assertEqual(found, wanted)
            self.assertEqual(breach(sheet, tuple(promises)), wanted)
            if found and found[0] == "point":
                self.assertEqual(list(found[2]), ["m", "n"])
        # The least point is told by the order of the inputs: n stands ahead of m here.
        other = read_sheet("input n from 0 to 1 input m from 0 to 1 cell t = m == n")
        self.assertEqual(breach(other, ["t"]), ("point", "t", {"n": 0, "m": 1}))
        self.assertEqual(breach(read_sheet("input m from 0 to 1 input n from 0 to 1 cell t = m == n"), ["t"]), ("point", "t", {"n": 1, "m": 0}))
        self.assertEqual(breach(FAULTY, ["zz"]), ("fault", ((2, 0, 2), "unknown", "x")))
        for seed in range(80):
            maker = Maker(seed)
            sheet, promises = promising_sheet(maker)
            behind = told_changed(sheet, some_lot(maker, sheet, 2))
            if behind is not None:
                self.assertEqual(breach(behind, promises), first_breach(behind, promises))

    def test_joined(self):
        behind = changed(SHEET, ONE)
        self.assertEqual(joined(sheet=SHEET, promises=PROMISES, one=ONE, other=ONE), behind)
        self.assertEqual(joined(SHEET, PROMISES, ONE, ()), behind)
        self.assertIsNone(collision(sheet=SHEET, promises=PROMISES, one=ONE, other=()))
        third = (one_cell("cell c = b"), ("range", "n", 1, 2))
        both = joined(SHEET, tuple(PROMISES), ONE, third)
        self.assertEqual(sheet_text(both), "input n from 1 to 2\ncell a = n + 1\ncell b = 4\ncell ok = a <= b\ncell c = b\n")
        self.assertEqual(joined(SHEET, PROMISES, third, ONE), both)
        pair = ((one_cell("cell a = 3"), one_cell("cell b = 4")), (("range", "n", 0, 2), one_cell("cell ok = n < b")))
        self.assertIsNone(collision(SHEET, PROMISES, *pair))
        wide = ((one_cell("cell b = n"),), (("range", "n", 0, 2),))
        self.assertIsNone(collision(SHEET, PROMISES, *wide))
        with self.assertRaises(NotGood) as caught:
            joined(SHEET, PROMISES, ONE, (one_cell("cell b = 2"),))
        self.assertEqual(caught.exception.number, 2)
        low = read_sheet("input n from 0 to 3 cell a = 1 cell b = 2 cell ok = a < b or n == 0 or b == 2")
        up = ((one_cell("cell a = 2"),), (one_cell("cell b = 3"),))
        self.assertIsNone(collision(low, PROMISES, *up))
        # Each is good, and they do not meet, but together a is greater than b.
        up = ((one_cell("cell a = 4"),), (one_cell("cell b = 3"),))
        self.assertEqual(collision(low, PROMISES, *up), up)
        # All cells gone: that does not fit.
        two = read_sheet("input n from 0 to 3 cell a = 1 cell b = 2")
        gone = ((("gone", "a"),), (("gone", "b"),))
        self.assertEqual(collision(two, [], *gone), gone)

    def test_the_first_of_several_collisions(self):
        """Of collisions with as many changes the names decide, whatever the changes are."""
        sheet = read_sheet("input n from 0 to 1 cell a = 1 cell p = 1 cell ok = a + n + p < 6")
        one = (one_cell("cell a = 3"),)
        other = (("range", "n", 0, 2), one_cell("cell p = 2"))
        self.assertEqual(collision(sheet, PROMISES, one, other), (one, other[:1]))
        self.assertEqual(collision(sheet, PROMISES, other, one), (other[:1], one))
        # The fewest changes of the first lot go ahead of names.
        sheet = read_sheet("input n from 0 to 1 cell a = 1 cell p = 1 cell ok = a + p < 7 or 1 < n")
        one = (one_cell("cell a = 3"), one_cell("cell b = 1"))
        other = (one_cell("cell p = 4"),)
        self.assertEqual(collision(sheet, PROMISES, one, other), (one[:1], other))
        sheet = read_sheet("input n from 0 to 1 cell a = 0 cell b = 0 cell p = 0 cell q = 0 cell ok = not (a + b == 2 and p == 1) and not (a == 1 and p + q == 2)")
        one = (one_cell("cell a = 1"), one_cell("cell b = 1"))
        other = (one_cell("cell p = 1"), one_cell("cell q = 1"))
        self.assertEqual(collision(sheet, PROMISES, one, other), (one[:1], other))
        self.assertEqual(collision(sheet, PROMISES, other, one), (other[:1], one))

    def test_made_writers(self):
        joins = clashes = smaller = 0
        for seed in range(300):
            maker = Maker(seed)
            sheet, promises = promising_sheet(maker)
            lots = [lot for lot in [some_lot(maker, sheet, maker.number(1, 3)) for _ in range(12)] if is_good(sheet, promises, lot)][:2]
            if len(lots) < 2:
                continue
            one, other = lots
            told = collisions(sheet, promises, one, other)
            found = collision(sheet, promises, one, other)
            self.assertEqual(found, told[0][1] if told else None)
            back = collision(sheet, promises, other, one)
            self.assertEqual(found is None, back is None)
            if found is not None:
                self.assertEqual(len(found[0] + found[1]), len(back[0] + back[1]))
            self.assertEqual(joined(sheet, promises, one, one), told_changed(sheet, one))
            if meets(one, other) or not is_good(sheet, promises, together(one, other)):
                clashes += 1
                smaller += found != (one, other)
                for told_pair, pair in ((found, (one, other)), (back, (other, one))):
                    with self.assertRaises(Collides) as caught:
                        joined(sheet, promises, *pair)
                    self.assertEqual((caught.exception.first, caught.exception.second), told_pair)
            else:
                joins += 1
                both = joined(sheet, promises, one, other)
                self.assertEqual(both, changed(sheet, together(one, other)))
                self.assertEqual(both, joined(sheet, promises, other, one))
        self.assertGreater(min(joins, clashes, smaller), 10)

    def test_errors(self):
        for thing in odd_values():
            with self.assertRaises(BadSheet):
                changed(thing, None)
            with self.assertRaises(BadSheet):
                breach(thing, None)
            with self.assertRaises(BadSheet):
                lot_between(thing, None)
            with self.assertRaises(BadSheet):
                lot_between(OLD, thing)
            for function in (collision, joined):
                with self.assertRaises(BadSheet):
                    function(thing, None, None, None)
        for old, new in ((FAULTY, None), (SHEET, FAULTY)):
            with self.assertRaises(Faulty):
                lot_between(old, new)
        for lot in bad_lots():
            with self.assertRaises(BadLot):
                changed(SHEET, lot)
            with self.assertRaises(BadLot):
                changed(FAULTY, lot)
        for promises in bad_promises():
            with self.assertRaises(BadPromises):
                breach(FAULTY, promises)
        for function in (collision, joined):
            with self.assertRaises(Faulty):
                function(FAULTY, None, None, None)
            for promises in bad_promises():
                with self.assertRaises(BadPromises):
                    function(SHEET, promises, None, None)
            for promises, wanted in ((["ok", "zz"], ("lacking", "zz")), (["a"], ("lacking", "a"))):
                with self.assertRaises(Broken) as caught:
                    function(SHEET, promises, None, None)
                self.assertEqual(caught.exception.breach, wanted)
            broken = read_sheet("input n from 0 to 4 cell ok = n < 4")
            with self.assertRaises(Broken) as caught:
                function(broken, PROMISES, (), ())
            self.assertEqual(caught.exception.breach, ("point", "ok", {"n": 4}))
            for lot in bad_lots():
                with self.assertRaises(BadLot):
                    function(SHEET, PROMISES, lot, None)
                with self.assertRaises(BadLot):
                    function(SHEET, PROMISES, BAD, lot)
            for one, other, number in ((BAD, (), 1), (BAD, BAD, 1), (ONE, BAD, 2), ((("gone", "zz"),), (), 1), ((), (("range", "a", 0, 1),), 2), ((), (("gone", "ok"),), 2),
                                       ((one_cell("row ok of 1 = 1 < 2"),), (), 1), ((one_cell("cell ok = 1"),), (), 1), ((("gone", "a"),), (), 1)):
                with self.assertRaises(NotGood) as caught:
                    function(SHEET, PROMISES, one, other)
                self.assertEqual(caught.exception.number, number)


if __name__ == "__main__":
    unittest.main()
