import unittest

from tests.making import Maker, all_points, all_spots, odd_values
from whysheets.errors import BadExpression, BadSheet, Faulty
from whysheets.kinds import kind_of, kinds
from whysheets.plain import worths
from whysheets.texts import read_expression, read_sheet

SHEET = read_sheet("""
input n from 0 to 2
row r of 3 = n + place
row t of 2 = t[place -1 else n < 1]
settle s from 0 to 1 start 0 = 1 - s
cell a = b
cell b = not t[1]
cell c = cases n {1: a, else: b}
cell d = if c then r[3] else sum r
""")


class KindsTest(unittest.TestCase):
    def test_told(self):
        self.assertEqual(kinds(SHEET), {"a": "truth", "b": "truth", "c": "truth", "d": "number", "n": "number",
                                        "r": "number", "s": "number", "t": "truth"})
        self.assertEqual(list(kinds(SHEET)), sorted(kinds(SHEET)))
        self.assertEqual(kinds(sheet=SHEET), kinds(SHEET))

    def test_kind_of(self):
        for text, kind in (("1", "number"), ("n", "number"), ("a", "truth"), ("t[2]", "truth"), ("r[2]", "number"),
                           ("if a then c else n < 1", "truth"), ("cases n {1: s, else: 2}", "number"), ("most r", "number"),
                           ("not a", "truth"), ("a or b", "truth"), ("a and b", "truth"), ("n == 1", "truth"), ("n < 1", "truth"), ("n <= 1", "truth"),
                           ("n + 1", "number"), ("n - 1", "number"), ("n * 1", "number"), ("greatest(n, d)", "number"),
                           ("sum r", "number"), ("fewest r", "number"), ("least(n, d)", "number")):
            self.assertEqual(kind_of(SHEET, read_expression(text)), kind, text)
        self.assertEqual(kind_of(sheet=SHEET, expression=("name", "a")), "truth")

    def test_bad_expressions(self):
        for text in ("place", "r[place 1 else 0]", "x", "r", "n[1]", "r[4]", "sum t", "sum n", "n + a", "not n", "a and n",
                     "if n then n else n", "if a then a else n", "cases a {1: 0, else: 1}", "cases n {1: a, else: n}",
                     "1 + (2 * x)", "n + place"):
            with self.assertRaises(BadExpression, msg=text):
                kind_of(SHEET, read_expression(text))
        for thing in odd_values():
            with self.assertRaises(BadExpression):
                kind_of(SHEET, thing)

    def test_sheets_go_first(self):
        for thing in odd_values():
            with self.assertRaises(BadSheet):
                kinds(thing)
            with self.assertRaises(BadSheet):
                kind_of(thing, None)
        sheet = read_sheet("input n from 0 to 2 cell a = b cell b = not a cell c = if b then n else b")
        for function in (lambda: kinds(sheet), lambda: kind_of(sheet, None)):
            with self.assertRaises(Faulty) as caught:
                function()
            self.assertEqual(caught.exception.fault, ((2, 2, 2, 3), "kind", "number"))
        with self.assertRaises(Faulty) as caught:
            kinds(read_sheet("input n from 0 to 2 cell a = b cell b = not a cell c = n"))
        self.assertEqual(caught.exception.fault, ((), "round", ("a", "b")))

    def test_example(self):
        sheet = read_sheet("input n from 0 to 2 cell b = not (n < 1) cell a = b cell c = if b then n else 0")
        self.assertEqual(kinds(sheet), {"a": "truth", "b": "truth", "c": "number", "n": "number"})

    def test_worths_of_truths(self):
        seen = set()
        for seed in range(80):
            sheet = Maker(seed).sheet(6, 3, 3, 4)
            told = kinds(sheet)
            for point in all_points(sheet):
                for spot, worth in worths(sheet, point).items():
                    if told[spot[0] if isinstance(spot, tuple) else spot] == "truth":
                        self.assertIn(worth, (0, 1, None))
                        seen.add(worth)
            for name in told:
                if name in all_spots(sheet):
                    self.assertEqual(kind_of(sheet, ("name", name)), told[name])
        self.assertEqual(seen, {0, 1, None})


if __name__ == "__main__":
    unittest.main()
