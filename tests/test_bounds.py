import unittest

from tests.making import Maker, all_points, all_spots, odd_values
from tests.reckoning import Spreader
from tests.test_boxes import BAD_BOXES
from tests.test_plain import FAULTY
from tests.test_settling import GROWS, TURNS
from whysheets.bounds import (allows, expression_stretch, hull, is_stretch, is_within, ring_stretches, stretch,
                              stretches)
from whysheets.boxes import box_at, points_in, whole
from whysheets.errors import (BadBox, BadExpression, BadSheet, BadSpot, BadStretch, BadStretches, BadWorth, Faulty,
                              NoRing)
from whysheets.plain import worths
from whysheets.settling import rings, settled
from whysheets.texts import read_expression, read_sheet

GOOD = [(0, 0, False), (-5, 7, True), (3, 3, True), (None, None, True), (-10 ** 12, 10 ** 12, False)]
BAD = [(1, 0, False), (None, None, False), (None, 1, True), (0, None, True), (0, 1), (0, 1, 1), (0, 1, None), [0, 1, True],
       (True, 1, True), (0, True, False), (0, 1, True, 0), ("0", 1, True)]
# o is surely open at p 1 and may be open over both numbers of p.
SHEET = read_sheet("""
input a from -3 to 5
input b from -3 to 5
input p from 0 to 1
input n from 0 to 2
settle o from 2 to 4 start 3 = if p == 1 then 6 - o + 1 - 2 * least(1, o - 3) else o
settle w from 2 to 2 start 2 = w
cell half = if n < 1 then o else 7
cell no = o
cell u = o < 3
row r of 3 = a + place
row one of 1 = b
row k of 3 = k[place -1 else a] + b
settle far from -1 to 1 start 0 = a
""")


def over(a=(0,), b=(0,), p=(0,), n=(0,)):
    """A box of the sheet."""
    return {"a": tuple(a), "b": tuple(b), "p": tuple(p), "n": tuple(n)}


class StretchTest(unittest.TestCase):
    def test_is_stretch(self):
        for thing in GOOD:
            self.assertIs(is_stretch(thing), True)
        for thing in BAD + odd_values():
            self.assertIs(is_stretch(thing), False, repr(thing))
        self.assertIs(is_stretch(thing=(1, 2, True)), True)

    def test_allows(self):
        for worth, wanted in ((1, False), (2, True), (4, True), (5, False), (None, False)):
            self.assertIs(allows((2, 4, False), worth), wanted)
        self.assertIs(allows((2, 4, True), None), True)
        self.assertIs(allows((None, None, True), None), True)
        self.assertIs(allows(stretch=(None, None, True), worth=0), False)
        for thing in BAD + odd_values():
            with self.assertRaises(BadStretch):
                allows(thing, "x")
        for thing in odd_values():
            if thing is not None and (not isinstance(thing, int) or isinstance(thing, bool)):
                with self.assertRaises(BadWorth):
                    allows((0, 1, True), thing)

    def test_is_within(self):
        small = [(low, high, may) for low in range(3) for high in range(low, 3) for may in (True, False)] + [(None, None, True)]
        for one in small:
            for other in small:
                wanted = all(allows(other, worth) for worth in (0, 1, 2, None) if allows(one, worth))
                self.assertIs(is_within(one, other), wanted, (one, other))
                joined = hull([one, other])
                self.assertTrue(is_within(one, joined) and is_within(other, joined))
                for third in small:
                    if is_within(one, third) and is_within(other, third):
                        self.assertTrue(is_within(joined, third))
        for thing in BAD + odd_values():
            with self.assertRaises(BadStretch):
                is_within(thing, (0, 1, True))
            with self.assertRaises(BadStretch):
                is_within(one=(0, 1, True), other=thing)

    def test_hull(self):
        self.assertEqual(hull([(1, 2, False)]), (1, 2, False))
        self.assertEqual(hull(((1, 2, False), (5, 9, False))), (1, 9, False))
        self.assertEqual(hull(stretches=[(1, 2, False), (None, None, True), (0, 1, False)]), (0, 2, True))
        self.assertEqual(hull([(None, None, True), (None, None, True)]), (None, None, True))
        self.assertEqual(hull([(4, 5, False), (1, 2, True)]), (1, 5, True))
        for thing in [[], (), [(0, 1)], [(0, 1, True), None], {(0, 1, True)}, {(0, 1, True): 1}, (0, 1, True), *odd_values()]:
            with self.assertRaises(BadStretches):
                hull(thing)


class ExpressionTest(unittest.TestCase):
    def has(self, text, wanted, **box):
        self.assertEqual(expression_stretch(SHEET, over(**box), read_expression(text)), wanted, text)

    def test_terms(self):
        self.has("-7", (-7, -7, False))
        self.has("a", (-1, 4, False), a=(-1, 0, 4))
        self.has("r[2]", (1, 6, False), a=(-1, 4))
        self.has("o", (3, 3, False))
        self.has("far", (-1, 1, False), a=(-3, 5))
        self.has("far", (0, 1, False), a=(0, 5))

    def test_reckoning(self):
        box = {"a": (-2, 3), "b": (-1, 4)}
        self.has("a + b", (-3, 7, False), **box)
        self.has("a - b", (-6, 4, False), **box)
        self.has("a - a", (-5, 5, False), **box)
        self.has("a * b", (-8, 12, False), **box)
        self.has("a * a", (-6, 9, False), **box)
        self.has("a * b", (2, 9, False), a=(-3, -2), b=(-3, -1))
        self.has("least(a, b)", (-2, 3, False), **box)
        self.has("greatest(a, b)", (-1, 4, False), **box)

    def test_less(self):
        for a, b, wanted in (((0, 1), (2, 3), (1, 1)), ((0, 2), (2, 3), (0, 1)), ((2, 3), (0, 2), (0, 0)), ((2, 3), (0, 1), (0, 0)),
                             ((1, 3), (0, 2), (0, 1)), ((2,), (2,), (0, 0))):
            self.has("a < b", wanted + (False,), a=a, b=b)

    def test_atmost(self):
        for a, b, wanted in (((0, 1), (2, 3), (1, 1)), ((0, 2), (2, 3), (1, 1)), ((2, 3), (0, 2), (0, 1)), ((2, 3), (0, 1), (0, 0)),
                             ((1, 3), (0, 2), (0, 1)), ((2,), (2,), (1, 1))):
            self.has("a <= b", wanted + (False,), a=a, b=b)

    def test_same(self):
        for a, b, wanted in (((2,), (2,), (1, 1)), ((0, 1), (2, 3), (0, 0)), ((2, 3), (0, 1), (0, 0)), ((0, 2), (2, 3), (0, 1)),
                             ((2, 3), (0, 2), (0, 1)), ((2, 3), (2,), (0, 1)), ((1, 3), (2,), (0, 1))):
            self.has("a == b", wanted + (False,), a=a, b=b)

    def test_not(self):
        self.has("not a < 2", (0, 0, False), a=(0, 1))
        self.has("not a < 2", (1, 1, False), a=(2, 3))
        self.has("not a < 2", (0, 1, False), a=(1, 3))

    def test_may_be_open(self):
        box = {"p": (0, 1)}
        low, high, may = expression_stretch(SHEET, over(**box), ("name", "o"))
        self.assertTrue(may)
        self.assertEqual((low, high), (2, 4))
        self.has("half", (2, 7, True), p=(0, 1), n=(0, 1))
        self.has("half", (7, 7, False), p=(0, 1), n=(1, 2))
        for sign, wanted in (("+", (3, 5)), ("-", (1, 3)), ("*", (2, 4)), ("<", (0, 0)), ("<=", (0, 0)), ("==", (0, 0))):
            self.has(f"o {sign} 1", wanted + (True,), **box)
        for word, wanted in (("least", (1, 1)), ("greatest", (2, 4))):
            self.has(f"{word}(o, 1)", wanted + (True,), **box)
            self.has(f"{word}(1, o)", wanted + (True,), **box)
        self.has("not u", (0, 1, True), **box)
        self.has("if u then 5 else 9", (5, 9, True), **box)
        self.has("u and a < 1", (0, 1, True), **box)
        self.has("u or a < 1", (1, 1, True), **box)
        self.has("a < 0 and u", (0, 0, False), **box)
        self.has("a < 1 or u", (1, 1, False), **box)
        self.has("a < 1 and u", (0, 1, True), **box)
        self.has("cases o {2: 10, 3: 20, else: 30}", (10, 30, True), **box)
        self.has("cases o {2: 10, 3: 20, 4: 30, else: 40}", (10, 30, True), **box)

    def test_a_ring_that_never_settles_has_its_range(self):
        sheet = read_sheet("input n from 0 to 1 settle z from 0 to 1 start 0 = 1 - z cell q = z + 1")
        self.assertEqual(stretch(sheet, {"n": (0,)}, "z"), (0, 1, True))
        self.assertEqual(stretch(sheet, {"n": (0,)}, "q"), (1, 2, True))

    def test_choices(self):
        self.has("if a < 2 then 5 else 9", (5, 5, False), a=(0, 1))
        self.has("if a < 2 then 5 else 9", (9, 9, False), a=(2, 3))
        self.has("if a < 2 then 5 else 9", (5, 9, False), a=(1, 3))
        self.has("cases a {0: 5, 2: 7, else: 9}", (5, 9, False), a=(0, 2))
        self.has("cases a {0: 5, 1: 6, 2: 7, else: 9}", (5, 7, False), a=(0, 2))
        self.has("cases a {0: 5, 1: 6, 2: 7, else: 9}", (6, 9, False), a=(1, 3))
        self.has("cases a {0: 5, else: 9}", (5, 5, False), a=(0,))
        self.has("cases a {0: 5, else: 9}", (9, 9, False), a=(1, 2))

    def test_and_or(self):
        for text, wanted in (("a < 2 and b < 2", {"11": (1, 1), "10": (0, 0), "1?": (0, 1), "01": (0, 0), "00": (0, 0), "0?": (0, 0),
                                                  "?1": (0, 1), "?0": (0, 0), "??": (0, 1)}),
                             ("a < 2 or b < 2", {"11": (1, 1), "10": (1, 1), "1?": (1, 1), "01": (1, 1), "00": (0, 0), "0?": (0, 1),
                                                 "?1": (1, 1), "?0": (0, 1), "??": (0, 1)})):
            numbers = {"1": (0, 1), "0": (2, 3), "?": (1, 2)}
            for key, numbers_of in wanted.items():
                self.has(text, numbers_of + (False,), a=numbers[key[0]], b=numbers[key[1]])

    def test_rows(self):
        self.has("sum r", (0, 15, False), a=(-2, 3))
        self.has("fewest r", (-1, 4, False), a=(-2, 3))
        self.has("most r", (1, 6, False), a=(-2, 3))
        for word in ("sum", "fewest", "most"):
            self.has(f"{word} one", (-1, 2, False), b=(-1, 2))
        self.assertEqual(stretch(SHEET, over(a=(0, 1), b=(2, 3)), ("k", 3)), (6, 10, False))

    def test_bad_expressions(self):
        for text in ("place", "k[place 1 else 0]", "zz", "r", "a[1]", "r[4]", "a + u", "not a"):
            with self.assertRaises(BadExpression):
                expression_stretch(SHEET, over(), read_expression(text))
        for thing in odd_values():
            with self.assertRaises(BadExpression):
                expression_stretch(SHEET, over(), thing)


class RingsTest(unittest.TestCase):
    def test_example(self):
        box = {"n": (0, 2)}
        sheet = ("sheet", (("input", "n", 0, 2),), (("cell", "d", ("minus", ("name", "n"), ("name", "n"))),))
        self.assertEqual(stretch(sheet, box, "d"), (-2, 2, False))
        turns = [((0, 0, False),), ((0, 2, False),)] + [((0, 3, False),)] * 7
        self.assertEqual(ring_stretches(GROWS, box, "a"), turns)
        self.assertEqual(stretch(GROWS, box, "a"), (0, 3, True))
        self.assertEqual(stretch(GROWS, {"n": (2,)}, "a"), (3, 3, False))

    def test_turns_are_widened(self):
        found = ring_stretches(TURNS, {"n": (1,)}, "a")
        self.assertEqual(found, [((0, 0, False),), ((1, 1, False),)] * 4 + [((0, 0, False),), ((0, 1, False),)])
        self.assertEqual(stretch(TURNS, {"n": (1,)}, "a"), (0, 1, True))

    def test_eight_rounds(self):
        for count, wanted in ((8, (8, 8, False)), (9, (8, 9, True))):
            sheet = read_sheet(f"input n from 0 to 1 settle a from 0 to {count} start 0 = a + 1")
            self.assertEqual(stretch(sheet, {"n": (0,)}, "a"), wanted)
            found = ring_stretches(sheet, {"n": (0,)}, "a")
            self.assertEqual(found[:9], [((k, k, False),) for k in range(9)])
            self.assertEqual(found[9:], [] if count == 8 else [((8, 9, False),)])

    def test_widenings_all_at_once(self):
        sheet = read_sheet("input n from 0 to 1 settle a from 0 to 20 start 0 = b + 1 settle b from 0 to 20 start 0 = a")
        found = ring_stretches(sheet, {"n": (0,)}, "b")
        self.assertEqual(found[8], ((4, 4, False), (4, 4, False)))
        self.assertEqual(found[9], ((4, 5, False), (4, 4, False)))
        self.assertEqual(found[10], ((4, 5, False), (4, 5, False)))
        self.assertEqual(found[-1], ((4, 20, False), (4, 20, False)))
        self.assertEqual(stretch(sheet, {"n": (0,)}, "b"), (4, 20, True))
        self.assertEqual(len(set(found)), len(found))

    def test_open_begins(self):
        sheet = read_sheet("""input n from 0 to 1 settle a from 0 to 3 start n = a settle b from -1 to 1 start a + 5 = b
            settle z from 0 to 1 start 0 = 1 - z settle y from 0 to 3 start z = y settle v from 0 to 1 start 0 = z""")
        self.assertEqual(stretch(sheet, {"n": (0, 1)}, "a"), (0, 1, True))
        self.assertEqual(stretch(sheet, {"n": (1,)}, "a"), (1, 1, False))
        self.assertEqual(stretch(sheet, {"n": (0, 1)}, "b"), (1, 1, True))
        self.assertEqual(stretch(sheet, {"n": (1,)}, "b"), (1, 1, False))
        self.assertEqual(ring_stretches(sheet, {"n": (1,)}, "y"), [((0, 1, True),)] * 9)
        self.assertEqual(stretch(sheet, {"n": (1,)}, "y"), (0, 1, True))
        self.assertEqual(stretch(sheet, {"n": (1,)}, "v"), (0, 1, True))

    def test_cells_ascending(self):
        sheet = read_sheet("input n from 0 to 1 settle b from 0 to 1 start 1 = a settle a from 0 to 1 start 0 = a + b")
        self.assertEqual(ring_stretches(sheet, {"n": (0,)}, "b")[0], ((0, 0, False), (1, 1, False)))
        self.assertEqual(ring_stretches(sheet=sheet, box={"n": (0,)}, cell="a"), ring_stretches(sheet, {"n": (0,)}, "b"))

    def test_no_ring(self):
        for cell in ["n", "d", "x", ("a", 1), ["a"], *odd_values()]:
            if isinstance(cell, str) and cell == "a":
                continue
            with self.assertRaises(NoRing) as caught:
                ring_stretches(GROWS, {"n": (0,)}, cell)
            self.assertIs(caught.exception.name, cell)


class FactsTest(unittest.TestCase):
    def test_worths_are_allowed(self):
        for seed in range(120):
            maker = Maker(seed)
            sheet = maker.sheet(6, 3, 3, 2)
            for box in (maker.box(sheet), maker.box(sheet), whole(sheet)):
                told = stretches(sheet, box)
                self.assertEqual(list(told), all_spots(sheet))
                for spot in told:
                    self.assertTrue(is_stretch(told[spot]))
                for point in points_in(sheet, box):
                    for spot, worth in worths(sheet, point).items():
                        self.assertTrue(allows(told[spot], worth), (spot, worth))

    def test_against_another_reckoning(self):
        widened = 0
        for seed in range(200):
            maker = Maker(seed)
            sheet = maker.sheet(7, 3, 4, seed % 4 + 1)
            for box in (maker.box(sheet), whole(sheet), box_at(sheet, all_points(sheet)[-1])):
                spreader = Spreader(sheet, box)
                self.assertEqual(stretches(sheet, box), {spot: spreader.stretch(spot) for spot in all_spots(sheet)})
                for ring in rings(sheet):
                    found = ring_stretches(sheet, box, ring[-1])
                    self.assertEqual(found, spreader.turns[ring])
                    widened += len(found) > 9
        self.assertGreater(widened, 20)

    def test_inner_boxes(self):
        for seed in range(150):
            maker = Maker(seed)
            sheet = maker.sheet(6, 3, 4, 2)
            box = maker.box(sheet)
            outer = stretches(sheet, box)
            for _ in range(3):
                inner = stretches(sheet, maker.inner_box(box))
                for spot in outer:
                    self.assertTrue(is_within(inner[spot], outer[spot]))

    def test_points(self):
        singles = 0
        for seed in range(120):
            sheet = Maker(seed).sheet(6, 3, 2, 2)
            for point in all_points(sheet):
                told = stretches(sheet, box_at(sheet, point))
                ends = [settled(sheet, point, ring[0]) for ring in rings(sheet)]
                if all(end[0] == "settled" and end[1] <= 8 for end in ends):
                    singles += 1
                    for spot, worth in worths(sheet, point).items():
                        self.assertEqual(told[spot], (worth, worth, worth is None))
        self.assertGreater(singles, 200)

    def test_expressions_of_spots(self):
        for seed in range(40):
            maker = Maker(seed)
            sheet = maker.sheet()
            box = maker.box(sheet)
            for spot, told in stretches(sheet, box).items():
                expression = ("item",) + spot if isinstance(spot, tuple) else ("name", spot)
                self.assertEqual(expression_stretch(sheet, box, expression), told)
                self.assertEqual(stretch(sheet, box, spot), told)
        self.assertEqual(expression_stretch(sheet=SHEET, box=over(), expression=("name", "a")), (0, 0, False))
        self.assertEqual(stretch(sheet=SHEET, box=over(), spot="a"), (0, 0, False))
        self.assertEqual(stretches(sheet=SHEET, box=over()), stretches(SHEET, over()))


class ErrorsTest(unittest.TestCase):
    FUNCTIONS = (lambda s, b: stretch(s, b, None), lambda s, b: stretches(s, b), lambda s, b: expression_stretch(s, b, None),
                 lambda s, b: ring_stretches(s, b, None))

    def test_sheets_go_first(self):
        for function in self.FUNCTIONS:
            for thing in odd_values():
                with self.assertRaises(BadSheet):
                    function(thing, None)
            with self.assertRaises(Faulty) as caught:
                function(FAULTY, None)
            self.assertEqual(caught.exception.fault, ((2, 0, 2), "unknown", "x"))

    def test_boxes_go_next(self):
        sheet = read_sheet("input n from 0 to 2 input b from -1 to 1 input q from 5 to 5 cell a = n")
        for function in self.FUNCTIONS:
            for box in BAD_BOXES + odd_values():
                with self.assertRaises(BadBox):
                    function(sheet, box)

    def test_bad_spots(self):
        for spot in ["r", ("r", 0), ("r", 4), ("r", True), ["r", 1], "zz", *odd_values()]:
            if isinstance(spot, str) and spot == "a":
                continue
            with self.assertRaises(BadSpot):
                stretch(SHEET, over(), spot)


if __name__ == "__main__":
    unittest.main()
