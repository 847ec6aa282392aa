import unittest

from tests.inquiring import ONES, SHEET, WHOLE, Told, bad_prices, is_scheme as told_scheme, made_case, trail_at
from tests.judging import box_points
from tests.making import Maker, all_spots, odd_values
from tests.test_schemes import refuses_boxes
from whysheets.asking import best_scheme
from whysheets.boxes import whole
from whysheets.errors import BadPrices, BadSides
from whysheets.kinds import kinds
from whysheets.names import reads
from whysheets.schemes import is_scheme, worst_price
from whysheets.texts import read_sheet


class BestTest(unittest.TestCase):
    def test_example(self):
        price, scheme = best_scheme(SHEET, WHOLE, "c", ONES, None)
        self.assertEqual(price, 2)
        self.assertEqual(worst_price(SHEET, WHOLE, "c", ONES, None, scheme), 2)
        self.assertEqual(best_scheme(sheet=SHEET, box=WHOLE, spot="c", prices=ONES, sides=ONES)[0], 2)

    def test_told(self):
        self.assertEqual(best_scheme(SHEET, {"x": (0,), "y": (0, 1, 2)}, "c", ONES, None), (0, ("known", 0, ("bounds",))))
        self.assertEqual(best_scheme(SHEET, WHOLE, "o", {"x": 7, "y": 1}, {"x": 2, "y": 1})[0], 2)
        self.assertEqual(best_scheme(SHEET, WHOLE, "o", {"x": 7, "y": 1}, {"x": 9, "y": 1})[0], 7)
        self.assertEqual(best_scheme(SHEET, {"x": (0, 2), "y": (1, 2)}, ("r", 2), {"x": 7, "y": 1}, {"x": 2, "y": 1})[0], 2)

    def test_made_sheets(self):
        prices_met = set()
        for seed in range(150):
            maker, sheet, box, spot, prices, sides = made_case(seed)
            told = Told(sheet, box, spot, prices, sides)
            price, scheme = best_scheme(sheet, box, spot, prices, sides)
            prices_met.add(price)
            self.assertEqual(price, told.price(box))
            self.assertIs(is_scheme(sheet, box, spot, scheme), True)
            self.assertTrue(told_scheme(sheet, box, spot, scheme))
            self.assertEqual(worst_price(sheet, box, spot, prices, sides, scheme), price)
            sums = [sum((prices if question[0] == "number" else sides)[question[1]] for question, _ in trail_at(box, scheme, point))
                    for point in box_points(box)]
            self.assertEqual(max(sums), price)
            self.assertEqual(price == 0, len({*told.worths.values()}) == 1)
            # Not greater over a box inside the box, with sides, nor for lesser prices.
            self.assertLessEqual(best_scheme(sheet, maker.inner_box(box), spot, prices, sides)[0], price)
            less = {name: max(1, prices[name] - maker.number(0, 1)) for name in prices}
            self.assertLessEqual(best_scheme(sheet, box, spot, less, sides)[0], price)
            if sides is None:
                self.assertLessEqual(best_scheme(sheet, box, spot, prices, maker.prices(sheet))[0], price)
            else:
                less = {name: max(1, sides[name] - maker.number(0, 1)) for name in sides}
                self.assertLessEqual(best_scheme(sheet, box, spot, prices, less)[0], price)
        self.assertGreater(len(prices_met), 6)

    def test_of_expressions(self):
        """A cell costs no more than the cells and inputs in it together."""
        met = 0
        for seed in range(60):
            maker = Maker(seed)
            sheet = maker.sheet(6, 3, 3)
            prices, sides = maker.prices(sheet), maker.prices(sheet)
            inputs = [one[1] for one in sheet[1]]
            for cell in sheet[2]:
                if cell[0] == "cell":
                    parts = reads(sheet, cell[1])
                    for side in (None, sides):
                        cost = sum(prices[one] if one in inputs else best_scheme(sheet, whole(sheet), one, prices, side)[0] for one in parts)
                        found = best_scheme(sheet, whole(sheet), cell[1], prices, side)[0]
                        self.assertLessEqual(found, cost)
                        met += 0 < found < cost
        self.assertGreater(met, 5)

    def test_many_points(self):
        names = "abcdefg"
        sheet = read_sheet("".join(f"input {name} from 0 to 3 " for name in names) + "cell s = a + b + c + d + e + f + g < 11")
        prices = {name: k + 1 for k, name in enumerate(names)}
        price, scheme = best_scheme(sheet, whole(sheet), "s", prices, None)
        self.assertEqual(price, 28)
        self.assertEqual(worst_price(sheet, whole(sheet), "s", prices, None, scheme), 28)

    def test_errors(self):
        refuses_boxes(self, best_scheme, 2)
        for thing in bad_prices() + odd_values():
            with self.assertRaises(BadPrices):
                best_scheme(SHEET, WHOLE, "c", thing, 0)
            if thing is not None:
                with self.assertRaises(BadSides):
                    best_scheme(SHEET, WHOLE, "c", ONES, thing)


if __name__ == "__main__":
    unittest.main()
