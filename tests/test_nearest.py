import unittest

from tests.judging import dear
from tests.making import Maker, all_points, all_spots, odd_values, worth_rank
from tests.reckoning import Reckoner
from tests.test_plain import FAULTY
from tests.turning import ALL, NEVER, PAIRS, SHEET, WISH, ZERO, odd_lots, refuses_all, told_case
from whysheets.boxes import whole
from whysheets.errors import BadLot, BadMany, BadPoint, BadPrices, BadSheet, BadSpot, Faulty
from whysheets.finding import find
from whysheets.nearest import ladder, nearest, nearest_many, price
from whysheets.texts import read_sheet
from whysheets.turns import behind

PRICES = {"a": 1, "b": 2, "c": 3}


def bad_prices():
    return [{"a": 1, "b": 2}, {**PRICES, "d": 1}, {**PRICES, "a": 0}, {**PRICES, "a": 1000}, {**PRICES, "a": True}, {**PRICES, "a": None},
            {"a": 1, "b": 2, "d": 3}, *odd_values()]


class NearestTest(unittest.TestCase):
    def test_example(self):
        self.assertEqual(nearest(SHEET, ZERO, [WISH], PRICES), (3, PAIRS[0]))
        self.assertEqual(ladder(SHEET, "s", ZERO, PRICES), [(0, 0), (1, 3)])

    def test_told(self):
        self.assertEqual(price(SHEET, ZERO, PRICES, ALL), 6)
        self.assertEqual(price(sheet=SHEET, point=ZERO, prices=PRICES, lot=()), 0)
        sheet = read_sheet("input n from -2 to 4 input b from 0 to 1 cell s = n * n == 4")
        point = {"n": 1, "b": 0}
        self.assertEqual(price(sheet, point, {"n": 5, "b": 7}, (("b", 1), ("n", -2), ("n", 3))), 7 + 15 + 10)
        self.assertEqual(nearest(sheet=sheet, point=point, wishes=[WISH], prices={"n": 5, "b": 7}), (5, (("n", 2),)))
        # Of two that are equally dear the least one.
        self.assertEqual(nearest(sheet, {"n": 0, "b": 0}, [WISH], {"n": 5, "b": 7}), (10, (("n", -2),)))
        self.assertEqual(nearest_many(sheet, point, [WISH], {"n": 5, "b": 7}, 50), [(5, (("n", 2),)), (15, (("n", -2),))])
        self.assertEqual(nearest_many(sheet=sheet, point=point, wishes=[WISH], prices={"n": 5, "b": 7}, many=1), [(5, (("n", 2),))])
        self.assertIsNone(nearest(SHEET, ZERO, [NEVER], PRICES))
        self.assertEqual(nearest_many(SHEET, ZERO, [NEVER], PRICES, 5), [])
        self.assertEqual(ladder(sheet=SHEET, spot="o", point=ZERO, prices=PRICES), [(None, 0)])
        # A turn with more moves may be less dear, and least by its moves though it has more.
        other = read_sheet("input a from 0 to 1 input b from 0 to 1 input c from 0 to 1 cell s = a * b + c == 1")
        self.assertEqual(nearest(other, ZERO, [WISH], {"a": 1, "b": 1, "c": 3}), (2, (("a", 1), ("b", 1))))
        self.assertEqual(nearest(other, ZERO, [WISH], {"a": 1, "b": 1, "c": 2}), (2, (("a", 1), ("b", 1))))
        self.assertEqual(nearest(other, ZERO, [WISH], {"a": 1, "b": 1, "c": 1}), (1, (("c", 1),)))
        # Equally dear worths by the worth, None behind all numbers.
        more = read_sheet("input n from 0 to 3 settle o from 0 to 1 start 0 = if n == 1 then 1 - o else n")
        self.assertEqual(ladder(more, "o", {"n": 2}, {"n": 4}), [(1, 0), (None, 4), (0, 8)])
        more = read_sheet("input n from 0 to 2 settle o from 0 to 9 start 0 = if n == 0 then 1 - o else if n == 1 then 5 else 9")
        self.assertEqual(ladder(more, "o", {"n": 1}, {"n": 2}), [(5, 0), (9, 2), (None, 2)])

    def test_made_sheets(self):
        met = 0
        for seed in range(80):
            maker, sheet, point, wishes, told = told_case(seed)
            prices = maker.prices(sheet)
            cost = lambda lot: sum(prices[name] * abs(n - point[name]) for name, n in lot)
            for lot in told.lots[::5]:
                self.assertEqual(price(sheet, point, prices, lot), cost(lot))
            pairs = sorted((cost(turn), turn) for turn in told.turns)
            found = nearest(sheet, point, wishes, prices)
            self.assertEqual(found, pairs[0] if pairs else None)
            least = sorted((cost(turn), turn) for turn in told.least_turns)
            many = maker.number(1, 5)
            self.assertEqual(nearest_many(sheet, point, wishes, prices, many), least[:many])
            self.assertEqual(nearest_many(sheet, point, wishes, prices, 50), least[:50])
            if pairs:
                met += 1
                self.assertIn(found[1], told.least_turns)
                far = (point, prices, found[0])
                self.assertEqual(find(sheet, whole(sheet), (tuple(wishes), far))[0], "paper")
                far = (point, prices, found[0] + 1)
                self.assertEqual(find(sheet, whole(sheet), (tuple(wishes), far))[0], "point")
                self.assertEqual(dear(point, prices, behind(sheet, point, found[1])), found[0])
        self.assertGreater(met, 50)

    def test_ladders(self):
        for seed in range(80):
            maker = Maker(seed)
            sheet = maker.sheet(4, 3, 3) if maker.chance(2) else maker.table_sheet(3, 3, 4, 6)
            point, prices = maker.point(sheet), maker.prices(sheet)
            inputs = [one[1] for one in sheet[1]]
            for spot in [one for one in all_spots(sheet) if one not in inputs][:6]:
                wanted = {}
                for other in all_points(sheet):
                    worth = Reckoner(sheet, other).worth(spot)
                    wanted[worth] = min(wanted.get(worth, 10 ** 9), dear(point, prices, other))
                found = ladder(sheet, spot, point, prices)
                self.assertEqual(found, sorted(wanted.items(), key=lambda pair: (pair[1], worth_rank(pair[0]))))
                self.assertEqual(found[0], (Reckoner(sheet, point).worth(spot), 0))

    def test_errors(self):
        refuses_all(self, nearest, 1)
        refuses_all(self, nearest_many, 2)
        for thing in bad_prices():
            for function in (lambda prices: nearest(SHEET, ZERO, [WISH], prices), lambda prices: price(SHEET, ZERO, prices, None),
                             lambda prices: nearest_many(SHEET, ZERO, [WISH], prices, None), lambda prices: ladder(SHEET, "s", ZERO, prices)):
                with self.assertRaises(BadPrices):
                    function(thing)
        for many in (0, 51, -1, True, None, "1", *[thing for thing in odd_values() if thing != 1]):
            with self.assertRaises(BadMany):
                nearest_many(SHEET, ZERO, [WISH], PRICES, many)
        for thing in odd_lots():
            with self.assertRaises(BadLot):
                price(SHEET, ZERO, PRICES, thing)
        for thing in odd_values():
            with self.assertRaises(BadSheet):
                price(thing, None, None, None)
            with self.assertRaises(BadPoint):
                price(SHEET, thing, None, None)
            with self.assertRaises(BadSheet):
                ladder(thing, None, None, None)
            if thing != "a":
                with self.assertRaises(BadSpot):
                    ladder(SHEET, thing, None, None)
            with self.assertRaises(BadPoint):
                ladder(SHEET, "s", thing, None)
        for spot in ("a", "r", ("r", 3), "z"):
            with self.assertRaises(BadSpot):
                ladder(SHEET, spot, None, None)
        with self.assertRaises(Faulty):
            price(FAULTY, None, None, None)
        with self.assertRaises(Faulty):
            ladder(FAULTY, None, None, None)


if __name__ == "__main__":
    unittest.main()
