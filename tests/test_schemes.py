import unittest

from tests.inquiring import (ONES, SHEET, WHOLE, answers, bad_prices, behind, is_scheme as told_scheme, made_case, questions_over,
                             trail_at)
from tests.judging import box_points
from tests.making import Odd, odd_values
from tests.test_plain import FAULTY
from whysheets.errors import BadBox, BadPoint, BadPrices, BadScheme, BadSheet, BadSides, BadSpot, Faulty
from whysheets.finding import find
from whysheets.plain import worth
from whysheets.schemes import is_scheme, trail, worst_price

B = ("bounds",)
# Asks for x, and for y unless x is 0.
PLAIN = ("ask", ("number", "x"), (("known", 0, B), ("ask", ("number", "y"), (("known", 0, B), ("known", 1, B), ("known", 1, B))),
                                 ("ask", ("number", "y"), (("known", 0, B), ("known", 1, B), ("known", 2, B)))))
SIDED = ("ask", ("atmost", "x", 0), (("known", 0, B), ("ask", ("number", "y"), (
    ("known", 0, B), ("known", 1, B), ("ask", ("atmost", "x", 1), (("known", 1, B), ("known", 2, B)))))))


def some_scheme(maker, sheet, box, spot, deep):
    """A scheme that asks anything, also in vain."""
    worths = {worth(sheet, point, spot) for point in box_points(box)}
    asked = questions_over(box, {})
    if len(worths) == 1 and (deep == 0 or not asked or maker.chance(2)):
        here = worths.pop()
        return ("known", here, find(sheet, box, (((spot, (here,), False),), None))[1])
    question = maker.one_of(asked)
    return ("ask", question, tuple(some_scheme(maker, sheet, one, spot, max(0, deep - 1)) for one in behind(box, question)))


class SchemeTest(unittest.TestCase):
    def test_example(self):
        self.assertIs(is_scheme(SHEET, WHOLE, "c", PLAIN), True)
        self.assertIs(is_scheme(sheet=SHEET, box=WHOLE, spot="c", thing=SIDED), True)
        self.assertEqual(worst_price(SHEET, WHOLE, "c", ONES, None, PLAIN), 2)
        self.assertEqual(worst_price(sheet=SHEET, box=WHOLE, spot="c", prices={"x": 5, "y": 3}, sides={"x": 1, "y": 2}, scheme=SIDED), 5)
        self.assertEqual(trail(SHEET, WHOLE, "c", PLAIN, {"x": 0, "y": 2}), ((("number", "x"), 0),))
        self.assertEqual(trail(sheet=SHEET, box=WHOLE, spot="c", scheme=SIDED, point={"x": 2, "y": 2}),
                         ((("atmost", "x", 0), False), (("number", "y"), 2), (("atmost", "x", 1), False)))
        # A point knows the open worth as well.
        box = {"x": (2,), "y": (0,)}
        self.assertIs(is_scheme(SHEET, box, "o", ("known", None, ("point",))), True)
        self.assertEqual(trail(SHEET, box, "o", ("known", None, ("point",)), {"x": 2, "y": 0}), ())
        self.assertEqual(worst_price(SHEET, box, "o", ONES, None, ("known", None, ("point",))), 0)

    def no_schemes(self):
        parts = PLAIN[2]
        return [("known", 0, B), ("known", True, B), ("known", None, B), ("known", 0), ["known", 0, B], ("known", 0, None), ("known", 0, "bounds"),
                ("ask", ("number", "x"), list(parts)), ("ask", ("number", "x"), parts[:2]), ("ask", ("number", "x"), parts + parts[:1]),
                ("ask", ("number", "x"), parts[::-1]), ("ask", ["number", "x"], parts), ("ask", ("number", "z"), parts),
                ("ask", ("number", "x", 0), parts), ("ask", ("number",), parts), ("ask", ("atmost", "x", 2), parts[:2]),
                ("ask", ("atmost", "x", True), SIDED[2]), ("ask", ("atmost", "x", False), SIDED[2]), ("ask", ("atmost", "x"), SIDED[2]),
                ("ask", ("atmost", "x", 0), SIDED[2][::-1]), ("ask", ("atmost", "x", -1), SIDED[2]), ("ask", ("most", "x", 0), SIDED[2]),
                ("ask", ("atmost", "x", 0, 0), SIDED[2]), ("ask", ("number", "c"), parts), ("ask", (None, "x"), parts),
                ("ask", ("number", ["x"]), parts), ("ask", ("number", "x"), ((("ask", ("number", "x"), parts[:1])),) + parts[1:]),
                ("ask", ("number", "x"), (("known", 0, ("far",)),) + parts[1:]), ("tell", ("number", "x"), parts), PLAIN + (1,),
                ("ask", ("number", "x"), (("known", 1, B),) + parts[1:]), ("known", Odd(), B), ("known", 0, Odd()), *odd_values()]

    def test_no_schemes(self):
        for thing in self.no_schemes():
            self.assertIs(is_scheme(SHEET, WHOLE, "c", thing), False, thing)
        # No number that the box has not, and no question where it has one alone.
        self.assertIs(is_scheme(SHEET, {"x": (0, 2), "y": (0, 1)}, "c", ("ask", ("atmost", "x", 1), SIDED[2])), False)
        self.assertIs(is_scheme(SHEET, {"x": (0,), "y": (0, 1)}, "c", ("ask", ("number", "x"), (("known", 0, B),))), False)

    def test_made_schemes(self):
        met = {True: 0, False: 0}
        for seed in range(120):
            maker, sheet, box, spot, prices, sides = made_case(seed)
            sides = sides or maker.prices(sheet)
            scheme = some_scheme(maker, sheet, box, spot, 2)
            self.assertTrue(told_scheme(sheet, box, spot, scheme))
            self.assertIs(is_scheme(sheet, box, spot, scheme), True)
            sums = []
            for point in box_points(box):
                found = trail(sheet, box, spot, scheme, point)
                self.assertEqual(found, trail_at(box, scheme, point))
                sums.append(sum((prices if question[0] == "number" else sides)[question[1]] for question, _ in found))
            self.assertEqual(worst_price(sheet, box, spot, prices, sides, scheme), max(sums))
            # A plain one has its price without sides too, another one has none.
            if "atmost" in str(scheme):
                with self.assertRaises(BadScheme):
                    worst_price(sheet, box, spot, prices, None, scheme)
            else:
                self.assertEqual(worst_price(sheet, box, spot, prices, None, scheme), max(sums))
            # The same scheme over another box may be none.
            other = maker.box(sheet)
            is_same = is_fit(box, other, scheme) and told_scheme(sheet, other, spot, scheme)
            self.assertIs(is_scheme(sheet, other, spot, scheme), is_same)
            met[is_same] += 1
        self.assertGreater(min(met.values()), 5)

    def test_errors(self):
        point = {"x": 0, "y": 0}
        functions = ((is_scheme, 1), (trail, 2), (worst_price, 3))
        for function, count in functions:
            refuses_boxes(self, function, count)
        for thing in self.no_schemes():
            with self.assertRaises(BadScheme):
                trail(SHEET, WHOLE, "c", thing, None)
            with self.assertRaises(BadScheme):
                worst_price(SHEET, WHOLE, "c", ONES, ONES, thing)
        with self.assertRaises(BadScheme):
            worst_price(SHEET, WHOLE, "c", ONES, None, SIDED)
        for thing in [{"x": 3, "y": 0}, {"x": 0}, {**point, "z": 0}, {"x": True, "y": 0}, *odd_values()]:
            with self.assertRaises(BadPoint):
                trail(SHEET, WHOLE, "c", PLAIN, thing)
        with self.assertRaises(BadPoint):
            trail(SHEET, {"x": (0,), "y": (0, 1)}, "c", ("known", 0, B), {"x": 1, "y": 0})
        for thing in bad_prices() + odd_values():
            with self.assertRaises(BadPrices):
                worst_price(SHEET, WHOLE, "c", thing, 0, None)
            if thing is not None:
                with self.assertRaises(BadSides):
                    worst_price(SHEET, WHOLE, "c", ONES, thing, None)


def is_fit(box, other, scheme):
    """Whether a scheme asks over another box what can be asked there, and has the parts for the answers."""
    if scheme[0] == "known":
        return True
    if scheme[1] not in questions_over(other, {}) or len(answers(other, scheme[1])) != len(scheme[2]):
        return False
    return all(is_fit(box, one, part) for one, part in zip(behind(other, scheme[1]), scheme[2]))


def refuses_boxes(test, function, count):
    """Whether a function of a sheet, a box, a spot and so many more refuses what is wrong, the first one first."""
    more = [None] * count
    for thing in odd_values():
        with test.assertRaises(BadSheet):
            function(thing, None, None, *more)
        with test.assertRaises(BadBox):
            function(SHEET, thing, None, *more)
        with test.assertRaises(BadSpot):
            function(SHEET, WHOLE, thing, *more)
    with test.assertRaises(Faulty):
        function(FAULTY, None, None, *more)
    for box in ({"x": (0,)}, {"x": (0,), "y": (3,)}, {"x": (), "y": (0,)}, {"x": (0,), "y": [0]}):
        with test.assertRaises(BadBox):
            function(SHEET, box, None, *more)
    for spot in ("x", "r", ("r", 3), "z", ("c", 1)):
        with test.assertRaises(BadSpot):
            function(SHEET, WHOLE, spot, *more)


if __name__ == "__main__":
    unittest.main()
