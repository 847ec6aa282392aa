import unittest

from tests.judging import box_points
from tests.making import odd_values
from tests.test_plain import FAULTY
from tests.turning import SHEET as VOTE, bad_wish_lists
from tests.wishing import PRICES, SHEET, WHOLE, WISHES, ZERO, Told, bad_boxes, made_case, price_to, way_to
from whysheets.errors import BadBox, BadPoint, BadPrices, BadSheet, BadWishes, Faulty
from whysheets.finding import find
from whysheets.nearest import nearest
from whysheets.boxes import whole
from whysheets.texts import read_sheet
from whysheets.wishes import granted, repair


class WishesTest(unittest.TestCase):
    def test_granted(self):
        self.assertEqual(granted(SHEET, ZERO, WISHES), (1, 2))
        self.assertEqual(granted(sheet=SHEET, point={"a": 1, "b": 1, "c": 1}, wishes=tuple(WISHES)), (0,))
        self.assertEqual(granted(SHEET, ZERO, [("s", (1,), True)]), ())
        self.assertEqual(granted(SHEET, ZERO, [("s", (0,), True)] * 8), tuple(range(8)))

    def test_repair(self):
        wishes = [("s", (1,), True), ("u", (2,), False)]
        self.assertEqual(repair(SHEET, ZERO, WHOLE, PRICES, wishes), (3, (("a", 1), ("b", 1))))
        self.assertEqual(repair(sheet=SHEET, point=ZERO, box={"a": (0, 1), "b": (0,), "c": (0, 1)}, prices=PRICES, wishes=wishes),
                         (4, (("a", 1), ("c", 1))))
        self.assertIsNone(repair(SHEET, ZERO, {"a": (0,), "b": (0, 1), "c": (0, 1)}, PRICES, wishes))
        self.assertIsNone(repair(SHEET, ZERO, WHOLE, PRICES, WISHES))
        self.assertEqual(repair(SHEET, ZERO, WHOLE, PRICES, WISHES[1:]), (0, ()))
        # The point need not be in the box, and the way leads into it.
        self.assertEqual(repair(SHEET, ZERO, {"a": (1,), "b": (0,), "c": (1,)}, PRICES, [("t", (1,), True)]), (4, (("a", 1), ("c", 1))))

    def test_the_least_way(self):
        """Ways are compared as tuples: that of fewer moves ahead of one that begins with them, not point by point."""
        sheet = read_sheet("input a from 0 to 2 input b from 0 to 2 cell s = if a == 1 then b == 1 else 1 < 2")
        prices = {"a": 1, "b": 1}
        self.assertEqual(repair(sheet, {"a": 1, "b": 0}, whole(sheet), prices, [("s", (1,), True)]), (1, (("a", 0),)))
        line = read_sheet("input a from 0 to 4 input b from 0 to 4 cell s = a + b")
        # (0, 2) is the least point with the sum 2, but the way (a 1) (b 1) is less than (b 2) and (a 2) is not.
        self.assertEqual(repair(line, {"a": 0, "b": 0}, whole(line), prices, [("s", (2,), True)]), (2, (("a", 1), ("b", 1))))
        self.assertEqual(repair(line, {"a": 2, "b": 2}, whole(line), prices, [("s", (4,), False)]), (1, (("a", 1),)))

    def test_made_wishes(self):
        met = 0
        for seed in range(250):
            maker, sheet, box, wishes = made_case(seed)
            told = Told(sheet, box, wishes)
            point, prices = maker.point(sheet), maker.prices(sheet)
            for k, one in enumerate(box_points(box)):
                if maker.chance(4):
                    self.assertEqual(granted(sheet, one, wishes), told.granted[k])
            ways = [(price_to(point, prices, one), way_to(point, one)) for one, lot in zip(told.points, told.granted) if len(lot) == len(wishes)]
            found = repair(sheet, point, box, prices, wishes)
            self.assertEqual(found, min(ways, default=None))
            if found is not None:
                met += 1
                self.assertEqual(find(sheet, box, (tuple(wishes), (point, prices, found[0])))[0], "paper")
                self.assertEqual(find(sheet, box, (tuple(wishes), (point, prices, found[0] + 1)))[0], "point")
                if box == whole(sheet) and found[0] > 0:
                    self.assertEqual(nearest(sheet, point, wishes, prices), found)
        self.assertGreater(met, 60)

    def test_errors(self):
        for thing in odd_values():
            with self.assertRaises(BadSheet):
                granted(thing, None, None)
            with self.assertRaises(BadSheet):
                repair(thing, None, None, None, None)
            with self.assertRaises(BadPoint):
                granted(SHEET, thing, None)
            with self.assertRaises(BadPoint):
                repair(SHEET, thing, None, None, None)
        with self.assertRaises(Faulty):
            granted(FAULTY, None, None)
        with self.assertRaises(Faulty):
            repair(FAULTY, None, None, None, None)
        for box in bad_boxes():
            with self.assertRaises(BadBox):
                repair(SHEET, ZERO, box, None, None)
        for prices in ({"a": 1, "b": 1}, {**PRICES, "d": 1}, {**PRICES, "a": 0}, {**PRICES, "a": 1000}, {**PRICES, "a": True}, *odd_values()):
            with self.assertRaises(BadPrices):
                repair(SHEET, ZERO, WHOLE, prices, None)
        for wishes, at in bad_wish_lists():
            with self.assertRaises(BadWishes) as caught:
                granted(VOTE, ZERO, wishes)
            self.assertEqual(caught.exception.at, at)
            with self.assertRaises(BadWishes) as caught:
                repair(VOTE, ZERO, WHOLE, PRICES, wishes)
            self.assertEqual(caught.exception.at, at)


if __name__ == "__main__":
    unittest.main()
