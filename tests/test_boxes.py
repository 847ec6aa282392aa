import unittest
from itertools import product

from tests.making import Maker, all_points, odd_values
from tests.test_plain import FAULTY
from whysheets.boxes import box_at, is_box, is_inside, nearest_in, points_in, whole
from whysheets.errors import BadBox, BadPoint, BadPrices, BadSheet, Faulty
from whysheets.texts import read_sheet

SHEET = read_sheet("input n from 0 to 2 input b from -1 to 1 input q from 5 to 5 cell a = n")
BOX = {"n": (0, 2), "b": (-1, 0, 1), "q": (5,)}
BAD_BOXES = [
    {}, {"n": (0,), "b": (0,)}, {"n": (0,), "b": (0,), "q": (5,), "x": (1,)}, {"n": (0,), "b": (0,), "x": (5,)},
    {"n": (), "b": (0,), "q": (5,)}, {"n": (3,), "b": (0,), "q": (5,)}, {"n": (2, 0), "b": (0,), "q": (5,)},
    {"n": (0, 0), "b": (0,), "q": (5,)}, {"n": [0], "b": (0,), "q": (5,)}, {"n": (True,), "b": (0,), "q": (5,)},
    {"n": 0, "b": (0,), "q": (5,)}, {"n": (None,), "b": (0,), "q": (5,)}, [("n", (0,))],
]
PRICES = {"n": 3, "b": 1, "q": 999}


class BoxTest(unittest.TestCase):
    def test_is_box(self):
        self.assertIs(is_box(SHEET, BOX), True)
        self.assertIs(is_box(sheet=SHEET, thing={"q": (5,), "b": (1,), "n": (0, 1, 2)}), True)
        for thing in BAD_BOXES + odd_values():
            self.assertIs(is_box(SHEET, thing), False)

    def test_whole(self):
        self.assertEqual(whole(SHEET), {"b": (-1, 0, 1), "n": (0, 1, 2), "q": (5,)})
        self.assertEqual(list(whole(sheet=SHEET)), ["b", "n", "q"])
        self.assertIsNot(whole(SHEET), whole(SHEET))

    def test_box_at(self):
        self.assertEqual(list(box_at(SHEET, {"q": 5, "n": 1, "b": -1}).items()), [("b", (-1,)), ("n", (1,)), ("q", (5,))])
        self.assertEqual(box_at(sheet=SHEET, point={"q": 5, "n": 1, "b": -1}), {"b": (-1,), "n": (1,), "q": (5,)})

    def test_points_in(self):
        points = points_in(SHEET, BOX)
        self.assertEqual(points, [{"b": b, "n": n, "q": 5} for b in (-1, 0, 1) for n in (0, 2)])
        self.assertEqual([list(point) for point in points], [["b", "n", "q"]] * 6)
        points[0]["n"] = 7
        self.assertEqual(points_in(sheet=SHEET, box=BOX)[0], {"b": -1, "n": 0, "q": 5})

    def test_made_boxes(self):
        for seed in range(60):
            maker = Maker(seed)
            sheet = maker.sheet(2, 3, 4)
            self.assertEqual(points_in(sheet, whole(sheet)), all_points(sheet))
            self.assertEqual(list(whole(sheet)), sorted(one[1] for one in sheet[1]))
            self.assertEqual(list(box_at(sheet, all_points(sheet)[0])), list(whole(sheet)))
            box, other = maker.box(sheet), maker.box(sheet)
            inside = [point for point in all_points(sheet) if all(point[name] in box[name] for name in box)]
            self.assertEqual(points_in(sheet, box), inside)
            self.assertIs(is_inside(sheet, box, other), all(point in points_in(sheet, other) for point in inside))
            self.assertIs(is_inside(sheet, maker.inner_box(box), box), True)
            for point in inside[:5]:
                self.assertEqual(points_in(sheet, box_at(sheet, point)), [point])

    def test_nearest(self):
        point = {"n": 1, "b": 1, "q": 5}
        self.assertEqual(nearest_in(SHEET, BOX, point, PRICES), (3, {"b": 1, "n": 0, "q": 5}))
        self.assertEqual(list(nearest_in(SHEET, BOX, point, PRICES)[1]), ["b", "n", "q"])
        found = nearest_in(sheet=SHEET, box={"n": (2,), "b": (-1,), "q": (5,)}, point=point, prices=PRICES)
        self.assertEqual(found, (5, {"b": -1, "n": 2, "q": 5}))
        self.assertEqual(nearest_in(SHEET, whole(SHEET), point, PRICES), (0, point))

    def test_nearest_of_all_points(self):
        for seed in range(60):
            maker = Maker(seed)
            sheet = maker.sheet(2, 3, 6)
            prices = {one[1]: maker.number(1, 5) for one in sheet[1]}
            point = maker.one_of(all_points(sheet))
            box = maker.box(sheet)
            dear = lambda other: sum(prices[name] * abs(other[name] - point[name]) for name in prices)
            wanted = min(points_in(sheet, box), key=dear)
            self.assertEqual(nearest_in(sheet, box, point, prices), (dear(wanted), wanted))

    def test_bad_boxes(self):
        for box in BAD_BOXES + odd_values():
            for function in (lambda: points_in(SHEET, box), lambda: is_inside(SHEET, box, None),
                             lambda: is_inside(SHEET, BOX, box), lambda: nearest_in(SHEET, box, None, None)):
                with self.assertRaises(BadBox):
                    function()

    def test_bad_points_and_prices(self):
        for point in [{}, {"n": 0, "b": 0}, {"n": 0, "b": 0, "q": 4}, {"n": True, "b": 0, "q": 5}, {"n": (0,), "b": (0,), "q": (5,)},
                      *odd_values()]:
            with self.assertRaises(BadPoint):
                box_at(SHEET, point)
            with self.assertRaises(BadPoint):
                nearest_in(SHEET, BOX, point, None)
        for prices in [{}, {"n": 1, "b": 1}, {"n": 1, "b": 1, "q": 0}, {"n": 1, "b": 1, "q": 1000}, {"n": 1, "b": 1, "q": True},
                       {"n": 1, "b": 1, "q": 1, "x": 1}, {"n": 1, "b": 1, "x": 1}, *odd_values()]:
            with self.assertRaises(BadPrices):
                nearest_in(SHEET, BOX, {"n": 0, "b": 0, "q": 5}, prices)

    def test_sheets_go_first(self):
        for function in (lambda s: is_box(s, None), lambda s: whole(s), lambda s: box_at(s, None), lambda s: points_in(s, None),
                         lambda s: is_inside(s, None, None), lambda s: nearest_in(s, None, None, None)):
            for thing in odd_values():
                with self.assertRaises(BadSheet):
                    function(thing)
            with self.assertRaises(Faulty) as caught:
                function(FAULTY)
            self.assertEqual(caught.exception.fault, ((2, 0, 2), "unknown", "x"))

    def test_nothing_is_changed(self):
        box = dict(BOX)
        point = {"n": 1, "b": 1, "q": 5}
        nearest_in(SHEET, box, point, PRICES)
        points_in(SHEET, box)
        self.assertEqual(list(box.items()), list(BOX.items()))
        self.assertEqual(point, {"n": 1, "b": 1, "q": 5})

    def test_ascending_by_name(self):
        sheet = read_sheet("input z from 0 to 1 input a from 0 to 1 cell c = z")
        self.assertEqual([tuple(point.values()) for point in points_in(sheet, whole(sheet))], list(product((0, 1), repeat=2)))


if __name__ == "__main__":
    unittest.main()
