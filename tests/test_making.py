import unittest

from tests.making import Maker, all_points, all_spots, odd_values
from tests.reckoning import Reckoner
from tests.test_plain import FAULTY
from whysheets.errors import BadOrder, BadSheet, BadSpot, Faulty, OtherOrder, TooMany
from whysheets.forks import fork_from, is_fork, worth_at
from whysheets.joins import joined
from whysheets.making import fork_of, same_worths
from whysheets.texts import read_sheet

SHEET = read_sheet("input y from 0 to 2 input x from 0 to 2 cell c = least(x, y) row r of 2 = c * place cell d = y")
XY = (("x", 0, 2), ("y", 0, 2))
LEAST = (("x", (1, 2, 4)), ("leaf", 0), ("y", (1, 3, 3)), ("leaf", 1), ("y", (1, 3, 5)), ("leaf", 2))


def order_of_inputs(sheet):
    return tuple(one[1:] for one in sheet[1])


def fork_by_points(sheet, spot, order):
    """The fork of a spot, made from a second telling of its worth at each point."""
    points = [{}]
    for name, low, high in order:
        points = [{**point, name: number} for point in points for number in range(low, high + 1)]
    return fork_from(order, [Reckoner(sheet, point).worth(spot) for point in points])


class ForkOfTest(unittest.TestCase):
    def test_example(self):
        self.assertEqual(fork_of(SHEET, "c", XY), ("fork", XY, LEAST))
        self.assertEqual(fork_of(sheet=SHEET, spot=("r", 1), order=XY), ("fork", XY, LEAST))
        self.assertEqual(fork_of(SHEET, "c", XY[::-1])[2][0], ("y", (1, 2, 4)))
        # The fork of an input asks for it alone.
        self.assertEqual(fork_of(SHEET, "y", XY)[2], (("y", (1, 2, 3)), ("leaf", 0), ("leaf", 1), ("leaf", 2)))
        self.assertEqual(fork_of(SHEET, "d", XY), fork_of(SHEET, "y", XY))

    def test_made_sheets(self):
        for seed in range(60):
            maker = Maker(seed)
            sheet = maker.sheet(5, 3, 3)
            order = tuple(maker.shuffled(order_of_inputs(sheet)))
            for spot in all_spots(sheet):
                found = fork_of(sheet, spot, order)
                self.assertTrue(is_fork(found))
                self.assertEqual(found, fork_by_points(sheet, spot, order))
                for point in all_points(sheet)[:3]:
                    self.assertEqual(worth_at(found, point), Reckoner(sheet, point).worth(spot))

    def test_of_expressions(self):
        """A cell's fork is put together of those of its parts."""
        for word in ("plus", "minus", "times", "least", "greatest", "less", "atmost", "same"):
            cells = (("cell", "a", ("minus", ("name", "x"), ("number", 1))), ("cell", "b", ("times", ("name", "y"), ("name", "x"))),
                     ("cell", "c", (word, ("name", "a"), ("name", "b"))))
            sheet = ("sheet", SHEET[1], cells)
            parts = [fork_of(sheet, "a", XY), fork_of(sheet, "b", XY)]
            self.assertEqual(fork_of(sheet, "c", XY), joined(word, parts))

    def test_errors(self):
        for thing in odd_values():
            with self.assertRaises(BadSheet):
                fork_of(thing, None, None)
            with self.assertRaises(BadSpot):
                fork_of(SHEET, thing, None)
            with self.assertRaises(BadOrder):
                fork_of(SHEET, "c", thing)
        with self.assertRaises(Faulty):
            fork_of(FAULTY, None, None)
        for spot in ("r", ("r", 3), ("c", 1), "z"):
            with self.assertRaises(BadSpot):
                fork_of(SHEET, spot, XY)
        for order in (XY[:1], XY + (("z", 0, 0),), (("x", 0, 2), ("y", 0, 1)), (("x", 0, 2), ("z", 0, 2)), list(XY), ()):
            with self.assertRaises(BadOrder):
                fork_of(SHEET, "c", order)

    def test_too_many(self):
        text = "".join(f"input {name} from 0 to 8 " for name in "abcd")
        sheet = read_sheet(text + "cell s = a + b * 9 + c * 81 + d * 729 cell t = a + b")
        order = tuple((name, 0, 8) for name in "abcd")
        with self.assertRaises(TooMany) as caught:
            fork_of(sheet, "s", order)
        self.assertEqual(caught.exception.most, 4000)
        self.assertEqual(len(fork_of(sheet, "t", order)[2]), 27)
        with self.assertRaises(BadOrder):
            fork_of(sheet, "s", order[:3])


class SameWorthsTest(unittest.TestCase):
    def test_told(self):
        other = read_sheet("input x from 0 to 2 input y from 0 to 2 cell e = if x < y then x else y cell f = x * y")
        self.assertIsNone(same_worths(SHEET, "c", other, "e"))
        self.assertEqual(same_worths(sheet=SHEET, spot=("r", 1), other=other, second="f"), {"x": 1, "y": 2})
        self.assertEqual(list(same_worths(SHEET, "c", other, "f")), ["x", "y"])
        self.assertEqual(same_worths(SHEET, "x", SHEET, "y"), {"x": 0, "y": 1})

    def test_made_sheets(self):
        told = 0
        for seed in range(80):
            maker = Maker(seed)
            sheet = maker.sheet(5, 3, 3)
            other = ("sheet", tuple(maker.shuffled(sheet[1])), tuple(maker.shuffled(sheet[2])))
            spot, second = maker.one_of(all_spots(sheet)), maker.one_of(all_spots(other))
            apart = [point for point in all_points(sheet)
                     if Reckoner(sheet, point).worth(spot) != Reckoner(other, point).worth(second)]
            self.assertEqual(same_worths(sheet, spot, other, second), apart[0] if apart else None)
            order = order_of_inputs(sheet)
            is_same = fork_of(sheet, spot, order) == fork_of(other, second, order)
            self.assertEqual(is_same, not apart)
            told += is_same
        self.assertGreater(told, 0)

    def test_open_worths(self):
        sheet = read_sheet("input n from 0 to 1 settle a from 0 to 1 start 0 = if n == 0 then 1 - a else a "
                           "settle b from 0 to 1 start 1 = if n == 0 then 1 - b else 0 cell c = 0")
        self.assertIsNone(same_worths(sheet, "a", sheet, "b"))
        self.assertEqual(same_worths(sheet, "a", sheet, "c"), {"n": 0})

    def test_many_nodes(self):
        """Forks that would be too large are no matter here."""
        text = "".join(f"input {name} from 0 to 8 " for name in "abcd")
        one = read_sheet(text + "cell s = a + b * 9 + c * 81 + d * 729")
        other = read_sheet(text + "cell t = d * 729 + c * 81 + b * 9 + a cell u = if t == 600 then 0 else t")
        self.assertIsNone(same_worths(one, "s", other, "t"))
        self.assertEqual(same_worths(one, "s", other, "u"), {"a": 6, "b": 3, "c": 7, "d": 0})

    def test_errors(self):
        other = read_sheet("input x from 0 to 2 input y from 0 to 1 cell c = x")
        for thing in odd_values():
            with self.assertRaises(BadSheet):
                same_worths(thing, None, None, None)
            with self.assertRaises(BadSpot):
                same_worths(SHEET, thing, None, None)
            with self.assertRaises(BadSheet):
                same_worths(SHEET, "c", thing, None)
            with self.assertRaises(BadSpot):
                same_worths(SHEET, "c", other, thing)
        with self.assertRaises(Faulty):
            same_worths(FAULTY, None, None, None)
        with self.assertRaises(Faulty):
            same_worths(SHEET, "c", FAULTY, None)
        for inputs in (("input x from 0 to 2 input y from 0 to 1",), ("input x from 0 to 2",),
                       ("input x from 0 to 2 input z from 0 to 2",), ("input x from 0 to 2 input y from 0 to 2 input z from 0 to 0",)):
            with self.assertRaises(OtherOrder):
                same_worths(SHEET, "c", read_sheet(inputs[0] + " cell c = x"), "c")


if __name__ == "__main__":
    unittest.main()
