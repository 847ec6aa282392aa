import unittest

from tests.making import Maker, all_points, all_spots, odd_values, spot_order
from tests.reckoning import Reckoner, rings_of
from whysheets.errors import BadExpression, BadPoint, BadSheet, BadSpot, Faulty, NotOpen
from whysheets.kinds import kinds
from whysheets.plain import expression_worth, looked_at, open_spots, why_open, worth, worths
from whysheets.settling import rings, settled
from whysheets.texts import read_expression, read_sheet

# At p 1 the ring of o comes again: o, q and x are open there; at p 0 nothing is.
SHEET = read_sheet("""
input n from 0 to 2
input p from 0 to 1
settle o from 0 to 1 start 0 = if p == 1 then 1 - o else o
cell q = o + 1
cell t = o == 0
row x of 3 = if place == 2 then q else n * place
row y of 2 = y[place -1 else 5] - 1
settle s from -3 to 3 start q = n * 9
""")
FAULTY = read_sheet("input n from 0 to 1 cell a = x")
OPEN = {"n": 2, "p": 1}
SHUT = {"n": 2, "p": 0}


def odd_points():
    return [{}, {"n": 1}, {"n": 1, "p": 2}, {"n": 3, "p": 0}, {"n": -1, "p": 0}, {"n": True, "p": 0}, {"n": 1, "p": False},
            {"n": 1, "p": None}, {"n": 1, "p": 0, "q": 0}, {"n": 1, "q": 0}, [("n", 1), ("p", 0)], ("n", "p"), *odd_values()]


class Case(unittest.TestCase):
    def comes_to(self, text, wanted, point=OPEN):
        self.assertEqual(expression_worth(SHEET, point, read_expression(text)), wanted, text)


class ExpressionTest(Case):
    def test_numbers(self):
        for text, wanted in (("7", 7), ("n", 2), ("n + 5", 7), ("n - 5", -3), ("n * -4", -8), ("least(n, -1)", -1), ("least(n, 3)", 2),
                             ("greatest(n, 3)", 3), ("greatest(n, -3)", 2), ("y[1]", 4), ("sum y", 7), ("fewest y", 3), ("most y", 4)):
            self.comes_to(text, wanted)

    def test_truths(self):
        for text, wanted in (("n < 2", 0), ("n < 3", 1), ("n <= 2", 1), ("n <= 1", 0), ("n == 2", 1), ("n == 1", 0), ("not n == 2", 0),
                             ("not n == 1", 1), ("n == 2 and p == 1", 1), ("n == 2 and p == 0", 0), ("n == 1 and p == 1", 0),
                             ("n == 1 or p == 0", 0), ("n == 1 or p == 1", 1), ("n == 2 or p == 0", 1)):
            self.comes_to(text, wanted)

    def test_choices(self):
        for text, wanted in (("if n == 2 then 5 else 6", 5), ("if n == 1 then 5 else 6", 6), ("cases n {1: 5, 2: 6, else: 7}", 6),
                             ("cases n {0: 5, 1: 6, else: 7}", 7), ("cases n {2: 5, else: 7}", 5)):
            self.comes_to(text, wanted)

    def test_an_open_part_makes_open(self):
        for text in ("o", "q", "x[2]", "s + o"):
            self.comes_to(text, None)
        for sign in ("+", "-", "*", "<", "<=", "=="):
            self.comes_to(f"o {sign} 0", None)
            self.comes_to(f"0 {sign} o", None)
        for word in ("least", "greatest"):
            self.comes_to(f"{word}(o, 0)", None)
            self.comes_to(f"{word}(0, o)", None)
        for text in ("not t", "sum x", "fewest x", "most x", "0 * o", "o - o", "o == o"):
            self.comes_to(text, None)

    def test_what_is_not_chosen_does_not_make_open(self):
        for text, wanted in (("if n == 2 then 1 else o", 1), ("if n == 1 then o else 1", 1), ("if n == 2 then o else 1", None),
                             ("if t then 1 else 1", None), ("cases n {1: o, 2: 5, else: o}", 5), ("cases n {1: o, else: 4}", 4),
                             ("cases n {1: 3, else: o}", None), ("cases o {0: 1, else: 1}", None)):
            self.comes_to(text, wanted)

    def test_and_or(self):
        for text, wanted in (("t and p == 0", None), ("p == 0 and t", 0), ("p == 1 and t", None), ("t or p == 1", None),
                             ("p == 1 or t", 1), ("p == 0 or t", None)):
            self.comes_to(text, wanted)

    def test_bad_expressions(self):
        for text in ("place", "y[place 1 else 0]", "unknown", "y", "n[1]", "y[3]", "sum n", "n + t", "not n", "if n then 1 else 2",
                     "if t then t else 1", "cases n {1: t, else: 1}"):
            with self.assertRaises(BadExpression):
                expression_worth(SHEET, OPEN, read_expression(text))
        for thing in odd_values():
            with self.assertRaises(BadExpression):
                expression_worth(SHEET, OPEN, thing)

    def test_names_and_items(self):
        for seed in range(30):
            sheet = Maker(seed).sheet()
            for point in all_points(sheet):
                for spot, told in worths(sheet, point).items():
                    expression = ("item",) + spot if isinstance(spot, tuple) else ("name", spot)
                    self.assertEqual(expression_worth(sheet, point, expression), told)
                    self.assertEqual(worth(sheet, point, spot), told)
        self.assertEqual(expression_worth(sheet=SHEET, point=OPEN, expression=("name", "n")), 2)


class WorthsTest(Case):
    def test_told(self):
        self.assertEqual(worths(SHEET, OPEN), {"n": 2, "o": None, "p": 1, "q": None, "s": 3, "t": None, ("x", 1): 2, ("x", 2): None,
                                               ("x", 3): 6, ("y", 1): 4, ("y", 2): 3})
        self.assertEqual(worths(SHEET, SHUT), {"n": 2, "o": 0, "p": 0, "q": 1, "s": 3, "t": 1, ("x", 1): 2, ("x", 2): 1,
                                               ("x", 3): 6, ("y", 1): 4, ("y", 2): 3})
        self.assertEqual(list(worths(SHEET, {"p": 1, "n": 2})), all_spots(SHEET))
        self.assertEqual(worths(sheet=SHEET, point=OPEN), worths(SHEET, OPEN))
        self.assertEqual(worth(sheet=SHEET, point=OPEN, spot=("y", 2)), 3)

    def test_at_both_ends_of_a_row(self):
        sheet = read_sheet("""input n from 0 to 1 row a of 1 = a[place 1 else place] row b of 9 = b[place -9 else 7]
            row c of 3 = c[place 1 else n] + place row d of 2 = b[place 8 else 0]""")
        told = worths(sheet, {"n": 1})
        self.assertEqual([told[("a", 1)], told[("b", 9)], told[("c", 1)], told[("c", 3)], told[("d", 1)], told[("d", 2)]], [1, 7, 7, 4, 7, 0])

    def test_settling_cells_of_no_ring(self):
        sheet = read_sheet("input n from -9 to 9 settle a from -2 to 3 start 0 = n settle b from 5 to 5 start o = a settle o from 0 to 1 start 0 = 1 - o")
        for number in range(-9, 10):
            told = worths(sheet, {"n": number})
            self.assertEqual((told["a"], told["b"], told["o"]), (max(-2, min(3, number)), 5, None))

    def test_against_another_reckoning(self):
        opened = 0
        for seed in range(150):
            sheet = Maker(seed).sheet(7, 3, 3, seed % 4 + 1)
            for point in all_points(sheet):
                reckoner = Reckoner(sheet, point)
                wanted = {spot: reckoner.worth(spot) for spot in all_spots(sheet)}
                found = worths(sheet, point)
                self.assertEqual(found, wanted)
                self.assertEqual(list(found), list(wanted))
                opened += None in wanted.values()
        self.assertGreater(opened, 40)

    def test_order_of_cells_changes_nothing(self):
        for seed in range(30):
            maker = Maker(seed)
            sheet = maker.sheet()
            other = ("sheet", tuple(maker.shuffled(sheet[1])), tuple(maker.shuffled(sheet[2])))
            for point in all_points(sheet):
                self.assertEqual(list(worths(sheet, point).items()), list(worths(other, point).items()))
                for spot in all_spots(sheet):
                    if kinds(sheet).get(spot) and spot not in point:
                        self.assertEqual(looked_at(sheet, point, spot), looked_at(other, point, spot))

    def test_nothing_is_open_where_all_rings_settle(self):
        for seed in range(100):
            sheet = Maker(seed).sheet(6, 2, 3, 3)
            for point in all_points(sheet):
                if all(settled(sheet, point, ring[0])[0] == "settled" for ring in rings(sheet)):
                    self.assertEqual(open_spots(sheet, point), ())

    def test_points_are_not_changed(self):
        point = {"p": 1, "n": 2}
        for function in (worths, open_spots):
            function(SHEET, point)
        self.assertEqual(list(point.items()), [("p", 1), ("n", 2)])


class OpenTest(Case):
    def test_told(self):
        self.assertEqual(open_spots(SHEET, OPEN), ("o", "q", "t", ("x", 2)))
        self.assertEqual(open_spots(SHEET, SHUT), ())
        self.assertEqual(open_spots(sheet=SHEET, point=SHUT), ())
        self.assertEqual(why_open(SHEET, OPEN, "o"), ("o",))
        self.assertEqual(why_open(SHEET, OPEN, ("x", 2)), (("x", 2), "q", "o"))
        self.assertEqual(why_open(sheet=SHEET, point=OPEN, spot="t"), ("t", "o"))

    def test_the_least_of_the_shortest(self):
        sheet = read_sheet("""input n from 0 to 1
            settle z from 0 to 1 start 0 = 1 - z settle y from 0 to 1 start 0 = 1 - y
            cell d = z cell c = y cell b = c + d cell a = b + d + e[1] row e of 1 = y cell f = e[1] + d cell g = if n == 0 then y else z + y""")
        for spot, wanted in (("b", ("b", "c", "y")), ("a", ("a", "d", "z")), ("f", ("f", "d", "z")), ("g", ("g", "y")),
                             (("e", 1), (("e", 1), "y"))):
            self.assertEqual(why_open(sheet, {"n": 0}, spot), wanted)
        self.assertEqual(why_open(sheet, {"n": 1}, "g"), ("g", "y"))

    def test_only_what_is_looked_at(self):
        sheet = read_sheet("""input n from 0 to 1 settle y from 0 to 1 start 0 = 1 - y settle z from 0 to 1 start 0 = 1 - z
            cell a = if n == 0 then z else y cell b = if n == 1 then 0 else a""")
        self.assertEqual(why_open(sheet, {"n": 0}, "b"), ("b", "a", "z"))
        self.assertEqual(why_open(sheet, {"n": 1}, "a"), ("a", "y"))
        with self.assertRaises(NotOpen):
            why_open(sheet, {"n": 1}, "b")

    def test_rings_that_settle_with_open_worths(self):
        sheet = read_sheet("""input n from 0 to 1 settle z from 0 to 1 start 0 = 1 - z
            settle a from 0 to 5 start z = a + 0 settle b from 0 to 5 start 0 = if n == 0 then b + z else b""")
        self.assertEqual(worths(sheet, {"n": 0}), {"a": None, "b": None, "n": 0, "z": None})
        self.assertEqual(worths(sheet, {"n": 1}), {"a": None, "b": 0, "n": 1, "z": None})
        self.assertEqual(settled(sheet, {"n": 0}, "a"), ("settled", 0))
        self.assertEqual(settled(sheet, {"n": 0}, "b"), ("settled", 1))
        self.assertEqual(why_open(sheet, {"n": 0}, "a"), ("a", "z"))
        self.assertEqual(why_open(sheet, {"n": 0}, "b"), ("b", "z"))

    def test_against_all_ways(self):
        longest = 0
        for seed in range(150):
            sheet = Maker(seed).sheet(8, 2, 2, 3)
            for point in all_points(sheet)[:4]:
                opened = [spot for spot, told in worths(sheet, point).items() if told is None]
                self.assertEqual(open_spots(sheet, point), tuple(opened))
                steps = {spot: [x for x in looked_at(sheet, point, spot) if x in opened] for spot in opened}
                lasts = [cell for ring in rings(sheet) for cell in ring if settled(sheet, point, cell)[0] == "again"]
                for spot in all_spots(sheet):
                    if spot not in opened:
                        with self.assertRaises(NotOpen):
                            why_open(sheet, point, spot)
                        continue
                    ways = [(spot,)]
                    while not any(way[-1] in lasts for way in ways):
                        ways = [way + (x,) for way in ways for x in steps[way[-1]] if x not in way]
                    wanted = min([way for way in ways if way[-1] in lasts], key=lambda way: [spot_order(x) for x in way])
                    self.assertEqual(why_open(sheet, point, spot), wanted)
                    longest = max(longest, len(wanted))
        self.assertGreater(longest, 2)


class LookedAtTest(Case):
    def looks(self, text, wanted, point=None):
        sheet = read_sheet("input n from 0 to 2 input p from 0 to 1 row r of 2 = n row z of 3 = r[place 1 else p] settle o from 0 to 1 start 0 = 1 - o " + text)
        found = looked_at(sheet, point or {"n": 1, "p": 0}, "c")
        self.assertEqual(found, wanted)

    def test_told(self):
        self.looks("cell c = 1", ())
        self.looks("cell c = n + p", ("n", "p"))
        self.looks("cell c = sum r + n", ("n", ("r", 1), ("r", 2)))
        self.looks("cell c = if n == 1 then p else r[1]", ("n", "p"))
        self.looks("cell c = if n == 0 then p else r[1]", ("n", ("r", 1)))
        self.looks("cell c = cases n {1: r[2], 2: p, else: 0}", ("n", ("r", 2)))
        self.looks("cell c = cases n {0: r[2], 2: p, else: 0}", ("n",))
        self.looks("cell c = n == 1 and p == 0", ("n", "p"))
        self.looks("cell c = n == 0 and p == 0", ("n",))
        self.looks("cell c = n == 1 or p == 0", ("n",))
        self.looks("cell c = n == 0 or p == 0", ("n", "p"))
        self.looks("cell c = o + n", ("n", "o"))
        self.looks("cell c = o == 0 and p == 0", ("o",))
        self.looks("cell c = if o == 0 then n else p", ("o",))
        self.looks("settle c from 0 to 1 start p = n", ("n",))

    def test_items(self):
        sheet = read_sheet("input n from 0 to 2 input p from 0 to 1 row r of 2 = n row z of 3 = r[place 1 else p]")
        point = {"n": 1, "p": 0}
        self.assertEqual(looked_at(sheet, point, ("z", 1)), (("r", 2),))
        self.assertEqual(looked_at(sheet, point, ("z", 2)), ("p",))
        self.assertEqual(looked_at(sheet=sheet, point=point, spot=("r", 1)), ("n",))

    def test_rings(self):
        # Of both cells, in the begin and in all rounds: a is 1, 0, 2, 0, and q is looked at where it is 2.
        sheet = read_sheet("""input n from 0 to 2 input p from 0 to 1 input q from 0 to 1
            settle a from 0 to 3 start n = b settle b from 0 to 3 start 0 = cases a {0: 0, 1: 2, else: if b == 2 then p else q + 2}""")
        for number, wanted in ((0, ("a", "b", "n")), (1, ("a", "b", "n", "q")), (2, ("a", "b", "n", "q"))):
            for cell in ("a", "b"):
                self.assertEqual(looked_at(sheet, {"n": number, "p": 0, "q": 0}, cell), wanted)

    def test_the_round_that_changes_nothing(self):
        sheet = read_sheet("input n from 0 to 2 settle a from 0 to 3 start 1 = if a == 1 then least(n, 0) + 1 else a")
        self.assertEqual(looked_at(sheet, {"n": 0}, "a"), ("a", "n"))

    def test_same_worths_where_it_looks_give_the_same_worth(self):
        for seed in range(60):
            sheet = Maker(seed).sheet(6, 3, 3, 2)
            cells = [spot for spot in all_spots(sheet) if spot not in [one[1] for one in sheet[1]]]
            points = all_points(sheet)
            told = [worths(sheet, point) for point in points]
            for k, point in enumerate(points):
                for spot in cells:
                    looks = looked_at(sheet, point, spot)
                    for other in told:
                        if all(other[x] == told[k][x] for x in looks):
                            self.assertEqual(other[spot], told[k][spot])

    def test_bad_spots(self):
        for spot in ["n", "p", "x", ("x", 0), ("x", 4), ("x", True), ["x", 1], "zz", *odd_values()]:
            with self.assertRaises(BadSpot):
                looked_at(SHEET, OPEN, spot)


class ErrorsTest(Case):
    def test_sheets_go_first(self):
        for function in (worths, open_spots):
            for thing in odd_values():
                with self.assertRaises(BadSheet):
                    function(thing, None)
            with self.assertRaises(Faulty) as caught:
                function(FAULTY, None)
            self.assertEqual(caught.exception.fault, ((2, 0, 2), "unknown", "x"))
        for function in (worth, expression_worth, why_open, looked_at):
            for thing in odd_values():
                with self.assertRaises(BadSheet):
                    function(thing, None, None)
            with self.assertRaises(Faulty):
                function(FAULTY, None, None)

    def test_points_go_next(self):
        for point in odd_points():
            for function in (worths, open_spots):
                with self.assertRaises(BadPoint):
                    function(SHEET, point)
            for function in (worth, expression_worth, why_open, looked_at):
                with self.assertRaises(BadPoint):
                    function(SHEET, point, None)

    def test_bad_spots(self):
        for spot in ["x", ("x", 0), ("x", 4), ("x", True), ["x", 1], "zz", ("n", 1), *odd_values()]:
            for function in (worth, why_open):
                with self.assertRaises(BadSpot):
                    function(SHEET, OPEN, spot)

    def test_not_open(self):
        for spot in ("n", "s", ("x", 1)):
            with self.assertRaises(NotOpen):
                why_open(SHEET, OPEN, spot)


class RingsOfSheetsTest(Case):
    def test_rings(self):
        for seed in range(80):
            sheet = Maker(seed).sheet(6, 2, 2, 3)
            self.assertEqual(rings(sheet), rings_of(sheet))


if __name__ == "__main__":
    unittest.main()
