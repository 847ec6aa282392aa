import unittest

from tests.inquiring import ONES, SHEET, WHOLE, Told, bad_prices, is_opponent as told_opponent, made_case
from tests.making import Odd, odd_values
from tests.test_schemes import refuses_boxes
from whysheets.asking import best_scheme
from whysheets.boxes import whole
from whysheets.errors import BadPrice, BadPrices, BadSides
from whysheets.opponents import is_opponent, opponent
from whysheets.texts import read_sheet

R = (0, 1, 2)
FIRST = ((R, R), 2, (0, 0), (1, 1))
OVER_X = ((R, (1,)), 1, (0, 1), (1, 1))
OVER_Y = (((1,), R), 1, (1, 0), (1, 1))
# The document's: it says 1 to the first question.
GOOD = (FIRST, OVER_X, OVER_Y)


def shows(thing, price=2, prices=ONES, sides=None, spot="c", box=WHOLE):
    return is_opponent(SHEET, box, spot, prices, sides, price, thing)


class OpponentTest(unittest.TestCase):
    def test_example(self):
        self.assertIs(shows(GOOD), True)
        self.assertIs(is_opponent(sheet=SHEET, box=WHOLE, spot="c", prices=ONES, sides=None, price=1, thing=GOOD), True)
        self.assertIs(shows(GOOD, 3), False)
        self.assertIs(shows((), 0), True)
        self.assertIs(shows((), 1), False)
        # An opponent of another box holds off nothing but the price 0.
        self.assertIs(shows(GOOD[1:2], 0), True)
        self.assertIs(shows(GOOD[1:2], 1), False)
        self.assertIs(shows(GOOD, 2, sides={"x": 2, "y": 2}), True)
        self.assertIs(shows(GOOD, 2, sides={"x": 1, "y": 2}), False)
        self.assertIs(shows(GOOD, 2, prices={"x": 1, "y": 2}), True)
        self.assertEqual(opponent(SHEET, {"x": (0,), "y": R}, "c", ONES, None), ())

    def test_no_opponents(self):
        for thing in ((FIRST,), GOOD[:2], (FIRST, OVER_Y), (OVER_X, FIRST, OVER_Y), (FIRST, FIRST, OVER_X, OVER_Y), list(GOOD),
                      (((R, R), 3, (0, 0), (1, 1)), OVER_X, OVER_Y), (((R, R), 0, (0, 0), (1, 1)), OVER_X, OVER_Y),
                      (((R, R), True, (0, 0), (1, 1)),), (((R, R), None, (0, 0), (1, 1)),), (((R, R), 1, (0, 0), (2, 0)),),
                      (((R, R), 1, (0, 0), (3, 3)),), (((R, R), 1, (0, 0), (1,)),), (((R, R), 1, (0, 0), [1, 1]),), (((R, R), 1, (0, 0), (1, 1, 1)),),
                      (((R, R), 1, (0, 0)),), ([(R, R), 1, (0, 0), (1, 1)],), (([R, R], 1, (0, 0), (1, 1)),), (((R,), 1, (0, 0), (1, 1)),),
                      (((R, R, R), 1, (0, 0), (1, 1)),), (((R, [0, 1]), 1, (0, 0), (1, 1)),), (((R, ()), 1, (0, 0), (1, 1)),),
                      (((R, (1, 0)), 1, (0, 0), (1, 1)),), (((R, (0, 3)), 1, (0, 0), (1, 0)),), (((R, (0, True)), 1, (0, 0), (1, 1)),),
                      (((R, (1,)), 1, (0, 0), (1, 1)),), (((R, R), 1, (0, 0), (True, 1)),), (((R, R), 1, (0, 0), (1, None)),),
                      (((R, R), 1, (0, 0), (Odd(), 1)),), (Odd(),), (None,), *odd_values()):
            if not (isinstance(thing, tuple) and thing == ()):
                self.assertIs(shows(thing, 1), False, thing)
        # Each entry must hold, also one that the first does not need.
        more = (((0, 1), (0, 1)), 2, (0, 0), (1, 1))
        self.assertIs(shows((more,) + GOOD), False)
        self.assertIs(shows((more[:1] + (1,) + more[2:],) + GOOD), True)
        # Numbers that the box passed does not have.
        self.assertIs(shows((((R, (1,)), 1, (0, 1), (1, 1)),), 0, box={"x": (0, 1), "y": R}), False)

    def test_made_sheets(self):
        held = 0
        for seed in range(200):
            maker, sheet, box, spot, prices, sides = made_case(seed)
            told = Told(sheet, box, spot, prices, sides)
            price = told.price(box)
            found = opponent(sheet, box, spot, prices, sides)
            self.assertEqual(list(found), sorted(found))
            self.assertEqual(len({entry[0] for entry in found}), len(found))
            self.assertTrue(told_opponent(told, price, found))
            self.assertIs(is_opponent(sheet, box, spot, prices, sides, price, found), True)
            self.assertIs(is_opponent(sheet, box, spot, prices, sides, price + 1, found), False)
            # No bound of an opponent is greater than the price of asking.
            for rows, bound, _, _ in found:
                self.assertLessEqual(bound, told.price_over(rows))
            held += price > 0
            for k in range(len(found)):
                rows, bound, one, other = found[k]
                for changed in ((), ((rows, bound + 1, one, other),), ((rows, bound, one, one),), ((rows, bound, other, one),)):
                    thing = found[:k] + changed + found[k + 1:]
                    wanted = told_opponent(told, price, thing)
                    self.assertIs(is_opponent(sheet, box, spot, prices, sides, price, thing), wanted)
            if price > 0 and len(found) > 3:
                self.assertFalse(told_opponent(told, price + 1, found))
        self.assertGreater(held, 50)

    def test_heart(self):
        """What holds off a price is never less than what a scheme costs."""
        for seed in range(60):
            _, sheet, box, spot, prices, sides = made_case(seed)
            price, _ = best_scheme(sheet, box, spot, prices, sides)
            thing = opponent(sheet=sheet, box=box, spot=spot, prices=prices, sides=sides)
            self.assertEqual([is_opponent(sheet, box, spot, prices, sides, k, thing) for k in (0, max(price - 1, 0), price, price + 1)],
                             [True, True, True, False])

    def test_many_points(self):
        names = "abcdefg"
        sheet = read_sheet("".join(f"input {name} from 0 to 3 " for name in names) + "cell s = a + b + c + d + e + f + g < 11")
        prices = {name: 1 for name in names}
        found = opponent(sheet, whole(sheet), "s", prices, None)
        self.assertIs(is_opponent(sheet, whole(sheet), "s", prices, None, 7, found), True)

    def test_errors(self):
        refuses_boxes(self, opponent, 2)
        refuses_boxes(self, is_opponent, 4)
        for thing in bad_prices() + odd_values():
            with self.assertRaises(BadPrices):
                opponent(SHEET, WHOLE, "c", thing, 0)
            with self.assertRaises(BadPrices):
                is_opponent(SHEET, WHOLE, "c", thing, 0, None, None)
            if thing is not None:
                with self.assertRaises(BadSides):
                    opponent(SHEET, WHOLE, "c", ONES, thing)
                with self.assertRaises(BadSides):
                    is_opponent(SHEET, WHOLE, "c", ONES, thing, None, None)
        for price in (-1, True, False, None, "1", (1,), [], {}, *[thing for thing in odd_values() if thing not in (0, 1)]):
            with self.assertRaises(BadPrice):
                is_opponent(SHEET, WHOLE, "c", ONES, None, price, None)


if __name__ == "__main__":
    unittest.main()
