import unittest
from itertools import combinations

from tests.making import Maker, all_points, all_spots, odd_values
from tests.test_order import EXAMPLE, SHEET, is_ring, knot_order, knots_read
from whysheets.errors import BadInputs, BadSheet, BadSpots, Faulty
from whysheets.order import knot_of
from whysheets.plain import worths
from whysheets.texts import read_sheet
from whysheets.waists import waist, ways_apart


def blocks(steps, firsts, lasts, gone):
    """Whether no way leads from the first knots to the last ones without the gone ones."""
    waiting = [knot for knot in firsts if knot not in gone]
    met = set(waiting)
    while waiting:
        knot = waiting.pop()
        if knot in lasts:
            return False
        for one in steps[knot]:
            if one not in met and one not in gone:
                met.add(one)
                waiting.append(one)
    return True


class WaistTest(unittest.TestCase):
    def test_example(self):
        self.assertIn(waist(EXAMPLE, ["m"], ["a", "b"]), (("m",), (("r", 1),), (("r", 2),)))
        ways = ways_apart(EXAMPLE, ["m"], ["a", "b"])
        self.assertEqual(len(ways), 1)
        self.assertEqual(ways[0][:3], ("m", ("r", 1), ("r", 2)))

    def test_told(self):
        self.assertEqual(waist(SHEET, ["n"], ["n"]), ("n",))
        self.assertEqual(ways_apart(SHEET, ["n"], ["n"]), [("n",)])
        self.assertEqual(waist(SHEET, ["n", "m"], ["c", "b"]), ())
        self.assertEqual(ways_apart(SHEET, ["n", "m"], ["c", "b"]), [])
        self.assertIn(waist(SHEET, ("n", "m"), ("z",)), ((("s", "t"),), ("z",)))
        self.assertEqual(waist(SHEET, ["n", "m"], ["n", "m", "z"]), ("m", "n"))
        self.assertIn(waist(sheet=SHEET, inputs=["m"], spots=["s", "t"]), (("m",), (("s", "t"),)))
        self.assertEqual(len(ways_apart(sheet=SHEET, inputs=["m"], spots=["s", "t"])), 1)

    def test_ways_that_must_turn_back(self):
        sheet = read_sheet("input m from 0 to 1 input n from 0 to 1 cell a = m + n cell b = n cell c = a cell d = a + b")
        self.assertEqual(len(waist(sheet, ["m", "n"], ["c", "d"])), 2)
        sheet = read_sheet("""input m from 0 to 1 input n from 0 to 1 input q from 0 to 1
            cell a = m + n cell b = m + q cell c = a + b + n cell d = b cell e = a cell f = c + d + e""")
        self.assertEqual(len(ways_apart(sheet, ["m", "n", "q"], ["c", "d", "e"])), 3)
        self.assertEqual(len(ways_apart(sheet, ["m", "n", "q"], ["d", "e"])), 2)
        self.assertEqual(waist(sheet, ["m", "n", "q"], ["f"]), ("f",))

    def test_made_sheets(self):
        sizes = set()
        for seed in range(120):
            maker = Maker(seed)
            sheet = maker.sheet(6, 3)
            inputs = maker.shuffled([one[1] for one in sheet[1]])[:maker.number(1, 3)]
            spots = maker.shuffled(all_spots(sheet))[:maker.number(1, 4)]
            found = waist(sheet, inputs, spots)
            ways = ways_apart(sheet, inputs, spots)
            self.assertIsInstance(found, tuple)
            self.assertIsInstance(ways, list)
            lasts = {knot_of(sheet, spot) for spot in spots}
            back = knots_read(sheet)
            steps = {knot: [one for one in back if knot in back[one]] for knot in back}
            self.assertEqual(list(found), sorted(set(found), key=knot_order))
            self.assertTrue(set(found) <= set(steps))
            self.assertTrue(blocks(steps, inputs, lasts, found))
            # No way has a knot of another one: so no waist has fewer knots than there are ways.
            self.assertEqual(len(ways), len(found))
            told = [knot for way in ways for knot in way]
            self.assertEqual(len(set(told)), len(told))
            for way in ways:
                self.assertIn(way[0], inputs)
                self.assertIn(way[-1], lasts)
                self.assertTrue(all(one in steps[knot] for knot, one in zip(way, way[1:])))
            if len(found) == 2:
                self.assertFalse(any(blocks(steps, inputs, lasts, gone) for gone in combinations(steps, 1)))
            sizes.add(len(found))
        self.assertTrue({0, 1, 2, 3} <= sizes)

    def test_same_worths_in_a_waist(self):
        for seed in range(50):
            maker = Maker(seed)
            sheet = maker.sheet(5, 3)
            inputs = maker.shuffled([one[1] for one in sheet[1]])[:maker.number(1, 2)]
            spots = maker.shuffled(all_spots(sheet))[:2]
            found = waist(sheet, inputs, spots)
            inner = [spot for knot in found for spot in (knot if is_ring(knot) else [knot])]
            known = {}
            for point in all_points(sheet):
                told = worths(sheet, point)
                others = tuple(number for name, number in point.items() if name not in inputs)
                key = others, tuple(told[spot] for spot in inner)
                here = [told[spot] for spot in spots]
                self.assertEqual(known.setdefault(key, here), here)

    def test_bad_inputs(self):
        for function in (waist, ways_apart):
            for inputs in [[], (), ["n", "n"], ["a"], ["z"], [("a", 1)], ["x"], "n", {"n": 1}, [None], [["n"]], *odd_values()]:
                with self.assertRaises(BadInputs):
                    function(SHEET, inputs, None)

    def test_bad_spots(self):
        for function in (waist, ways_apart):
            for spots in [[], (), ["n", "n"], ["a"], [("a", 3)], ["x"], "n", [("s", "t")], [None], ["z", "z"], *odd_values()]:
                with self.assertRaises(BadSpots):
                    function(SHEET, ["n"], spots)

    def test_sheets_go_first(self):
        for function in (waist, ways_apart):
            for thing in odd_values():
                with self.assertRaises(BadSheet):
                    function(thing, None, None)
            with self.assertRaises(Faulty):
                function(read_sheet("input n from 0 to 1 cell a = x"), None, None)


if __name__ == "__main__":
    unittest.main()
