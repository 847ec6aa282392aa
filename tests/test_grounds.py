import unittest
from itertools import combinations

from tests.inquiring import ONES, SHEET, bad_prices, trail_at
from tests.making import Maker, all_points, all_spots, odd_values
from tests.reckoning import Reckoner
from tests.test_plain import FAULTY
from whysheets.asking import best_scheme
from whysheets.boxes import whole
from whysheets.errors import BadPoint, BadPrices, BadSheet, BadSpot, Faulty
from whysheets.grounds import cheapest_grounds


class Told:
    """The worths of a spot, and which names ground it."""

    def __init__(self, sheet, spot):
        self.names = sorted(one[1] for one in sheet[1])
        self.worths = {tuple(point[name] for name in self.names): Reckoner(sheet, point).worth(spot) for point in all_points(sheet)}

    def key(self, point):
        return tuple(point[name] for name in self.names)

    def do_ground(self, point, names):
        at = self.key(point)
        own = [k for k, name in enumerate(self.names) if name in names]
        return len({worth for numbers, worth in self.worths.items() if all(numbers[k] == at[k] for k in own)}) == 1

    def cheapest(self, point, prices):
        lots = [lot for k in range(len(self.names) + 1) for lot in combinations(self.names, k) if self.do_ground(point, lot)]
        return min((sum(prices[name] for name in lot), lot) for lot in lots)


class GroundsTest(unittest.TestCase):
    def test_told(self):
        self.assertEqual(cheapest_grounds(SHEET, {"x": 0, "y": 0}, "c", ONES), (1, ("x",)))
        self.assertEqual(cheapest_grounds(SHEET, {"x": 0, "y": 0}, "c", {"x": 3, "y": 2}), (2, ("y",)))
        self.assertEqual(cheapest_grounds(sheet=SHEET, point={"x": 1, "y": 2}, spot="c", prices={"x": 3, "y": 2}), (5, ("x", "y")))
        self.assertEqual(cheapest_grounds(SHEET, {"x": 1, "y": 2}, ("r", 1), ONES), (1, ("x",)))
        self.assertEqual(cheapest_grounds(SHEET, {"x": 2, "y": 2}, "o", ONES), (1, ("x",)))

    def test_made_sheets(self):
        sums = set()
        for seed in range(50):
            maker = Maker(seed)
            sheet = maker.sheet(4, 3, 3) if maker.chance(3) else maker.table_sheet(4, 3, 2, 8)
            inputs = [one[1] for one in sheet[1]]
            spot = maker.one_of([one for one in all_spots(sheet) if one not in inputs])
            prices = maker.prices(sheet)
            told = Told(sheet, spot)
            price, scheme = best_scheme(sheet, whole(sheet), spot, prices, None)
            costs = {}
            grounds = {}
            for point in all_points(sheet):
                found = cheapest_grounds(sheet, point, spot, prices)
                self.assertEqual(found, told.cheapest(point, prices))
                sums.add(found[0])
                # What a trail asks grounds the spot, so asking costs no less.
                asked = {question[1] for question, _ in trail_at(whole(sheet), scheme, point)}
                self.assertTrue(told.do_ground(point, asked))
                self.assertLessEqual(found[0], price)
                grounds[told.key(point)] = found[1]
                worth = told.worths[told.key(point)]
                ones = cheapest_grounds(sheet, point, spot, {name: 1 for name in inputs})[0]
                costs[worth] = max(ones, costs.get(worth, 0))
            if len(costs) == 2:
                one, other = costs.values()
                self.assertLessEqual(best_scheme(sheet, whole(sheet), spot, {name: 1 for name in inputs}, None)[0], one * other)
            for one, other in combinations(list(grounds)[:20], 2):
                if told.worths[one] != told.worths[other]:
                    common = set(grounds[one]) & set(grounds[other])
                    self.assertTrue(any(one[k] != other[k] for k, name in enumerate(told.names) if name in common))
        self.assertGreater(len(sums), 4)

    def test_errors(self):
        point = {"x": 0, "y": 0}
        for thing in odd_values():
            with self.assertRaises(BadSheet):
                cheapest_grounds(thing, None, None, None)
            with self.assertRaises(BadPoint):
                cheapest_grounds(SHEET, thing, None, None)
            with self.assertRaises(BadSpot):
                cheapest_grounds(SHEET, point, thing, None)
        with self.assertRaises(Faulty):
            cheapest_grounds(FAULTY, None, None, None)
        for spot in ("x", "r", ("r", 3), "z"):
            with self.assertRaises(BadSpot):
                cheapest_grounds(SHEET, point, spot, None)
        for thing in bad_prices() + odd_values():
            with self.assertRaises(BadPrices):
                cheapest_grounds(SHEET, point, "c", thing)


if __name__ == "__main__":
    unittest.main()
