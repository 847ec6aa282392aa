import unittest

from tests.making import Maker, all_points, odd_values
from tests.reckoning import Reckoner, rings_of
from tests.test_plain import FAULTY, SHEET, odd_points
from whysheets.errors import BadPoint, BadSheet, Faulty, NoRing
from whysheets.plain import worth
from whysheets.settling import rings, rounds, settled
from whysheets.texts import read_sheet

# The two settling cells of the example.
GROWS = ("sheet", (("input", "n", 0, 2),), (("settle", "a", 0, 3, ("number", 0), ("plus", ("name", "a"), ("name", "n"))),))
TURNS = ("sheet", (("input", "n", 0, 2),), (("settle", "a", 0, 1, ("number", 0), ("minus", ("number", 1), ("name", "a"))),))


class ExampleTest(unittest.TestCase):
    def test_grows(self):
        self.assertEqual(rounds(GROWS, {"n": 0}, "a"), [(0,)])
        self.assertEqual(settled(GROWS, {"n": 0}, "a"), ("settled", 0))
        self.assertEqual(worth(GROWS, {"n": 0}, "a"), 0)
        self.assertEqual(rounds(GROWS, {"n": 2}, "a"), [(0,), (2,), (3,)])
        self.assertEqual(settled(GROWS, {"n": 2}, "a"), ("settled", 2))
        self.assertEqual(worth(GROWS, {"n": 2}, "a"), 3)

    def test_turns(self):
        for number in range(3):
            self.assertEqual(rounds(TURNS, {"n": number}, "a"), [(0,), (1,), (0,)])
            self.assertEqual(settled(TURNS, {"n": number}, "a"), ("again", 0, 2))
            self.assertIsNone(worth(TURNS, {"n": number}, "a"))


class SettlingTest(unittest.TestCase):
    def test_rings(self):
        sheet = read_sheet("""input n from 0 to 1 settle d from 0 to 1 start 0 = c settle c from 0 to 1 start n = e settle e from 0 to 1 start 0 = d
            settle b from 0 to 1 start 0 = b settle a from 0 to 1 start b = c settle z from 0 to 1 start 0 = 1""")
        self.assertEqual(rings(sheet), [("b",), ("c", "d", "e")])
        self.assertEqual(rings(sheet=sheet), rings(sheet))
        self.assertIsNot(rings(sheet), rings(sheet))
        self.assertEqual(rings(read_sheet("input n from 0 to 1 cell a = n")), [])

    def test_all_at_once(self):
        sheet = read_sheet("input n from 0 to 1 settle b from 0 to 9 start 5 = a settle a from 0 to 9 start n = b")
        self.assertEqual(rounds(sheet, {"n": 1}, "a"), [(1, 5), (5, 1), (1, 5)])
        self.assertEqual(rounds(sheet, {"n": 1}, "b"), rounds(sheet, {"n": 1}, "a"))
        self.assertEqual(settled(sheet, {"n": 1}, "b"), ("again", 0, 2))
        self.assertEqual(rounds(sheet=sheet, point={"n": 0}, cell="b"), [(0, 5), (5, 0), (0, 5)])
        self.assertEqual(settled(sheet=sheet, point={"n": 0}, cell="b"), ("again", 0, 2))

    def test_begins_are_brought_within(self):
        sheet = read_sheet("input n from -9 to 9 settle a from -2 to 3 start n = a")
        for number, begin in ((-9, -2), (9, 3), (1, 1)):
            self.assertEqual(rounds(sheet, {"n": number}, "a"), [(begin,)])

    def test_rounds_that_lead_to_a_circle(self):
        sheet = read_sheet("input n from 0 to 1 settle a from 0 to 9 start 0 = cases a {0: 3, 3: 5, 5: 6, 6: 7, 7: 5, else: 0}")
        self.assertEqual(rounds(sheet, {"n": 0}, "a"), [(0,), (3,), (5,), (6,), (7,), (5,)])
        self.assertEqual(settled(sheet, {"n": 0}, "a"), ("again", 2, 3))

    def test_rings_behind_rings(self):
        sheet = read_sheet("""input n from 0 to 2 settle a from 0 to 3 start 0 = a + n settle b from 0 to 9 start a = least(b + a, 7)
            settle o from 0 to 1 start 0 = 1 - o settle c from 0 to 3 start o = c + n""")
        self.assertEqual(rounds(sheet, {"n": 2}, "b"), [(3,), (6,), (7,)])
        self.assertEqual(rounds(sheet, {"n": 2}, "c"), [(None,)])
        self.assertEqual(settled(sheet, {"n": 2}, "c"), ("settled", 0))

    def test_made_sheets(self):
        kinds = set()
        for seed in range(120):
            sheet = Maker(seed).sheet(6, 2, 3, 3)
            self.assertEqual(rings(sheet), rings_of(sheet))
            for point in all_points(sheet):
                reckoner = Reckoner(sheet, point)
                for ring in rings(sheet):
                    reckoner.worth(ring[0])
                    told = reckoner.rounds[ring]
                    for cell in ring:
                        self.assertEqual(rounds(sheet, point, cell), told)
                        found = settled(sheet, point, cell)
                        if told[-1] in told[:-1]:
                            first = told.index(told[-1])
                            self.assertEqual(found, ("again", first, len(told) - 1 - first))
                        else:
                            self.assertEqual(found, ("settled", len(told) - 1))
                        kinds.add(found)
        self.assertTrue({("settled", 0), ("settled", 2), ("again", 0, 2), ("again", 1, 2)} <= kinds)

    def test_errors(self):
        for function in (lambda s: rings(s), lambda s: rounds(s, None, None), lambda s: settled(s, None, None)):
            for thing in odd_values():
                with self.assertRaises(BadSheet):
                    function(thing)
            with self.assertRaises(Faulty) as caught:
                function(FAULTY)
            self.assertEqual(caught.exception.fault, ((2, 0, 2), "unknown", "x"))
        for function in (rounds, settled):
            for point in odd_points():
                with self.assertRaises(BadPoint):
                    function(SHEET, point, None)
            for cell in ["n", "q", "s", "x", ("x", 1), ("o",), ["o"], "zz", *odd_values()]:
                with self.assertRaises(NoRing) as caught:
                    function(SHEET, {"n": 0, "p": 0}, cell)
                self.assertIs(caught.exception.name, cell)


if __name__ == "__main__":
    unittest.main()
