import unittest

from tests.judging import does_break, is_right_split, some_paper
from tests.making import Maker, Odd, all_points, odd_values
from tests.test_plain import FAULTY, odd_points
from whysheets.boxes import whole
from whysheets.errors import BadBox, BadClaim, BadPaper, BadPoint, BadSheet, BadSplit, Faulty
from whysheets.papers import breaks, is_paper, leaf_boxes
from whysheets.texts import read_sheet

SHEET = read_sheet("input x from 0 to 2 input y from 0 to 2 cell s = x + y row r of 2 = x * place settle o from 0 to 1 start 0 = 1 - o")
ZERO = {"x": 0, "y": 0}
PRICES = {"x": 1, "y": 2}
WISH = ("s", (4,), True)
B = ("bounds",)


def bad_claims():
    """Values that are no claim of the sheet."""
    wishes = [("x", (1,), True), ("r", (1,), True), (("r", 3), (1,), True), ("z", (1,), True), ("s", (), True), ("s", (1, 1), True),
              ("s", (2, 1), True), ("s", (None, 1), True), ("s", (None, None), True), ("s", [1], True), ("s", 1, True),
              ("s", (1,), 1), ("s", (1,), None), ("s", (True,), True), ("s", ("1",), True), ("s", (1,)), ["s", (1,), True],
              ("s", (1,), True, True), (["r", 1], (1,), True), ("s", (Odd(),), True)]
    fars = [(ZERO, PRICES), (ZERO, PRICES, -1), (ZERO, PRICES, True), (ZERO, PRICES, None), [ZERO, PRICES, 1], ({}, PRICES, 1),
            ({"x": 3, "y": 0}, PRICES, 1), (ZERO, {"x": 0, "y": 1}, 1), (ZERO, {"x": 1000, "y": 1}, 1), (ZERO, {"x": 1}, 1),
            (ZERO, {"x": True, "y": 1}, 1), (), False, 0]
    found = [((wish,), None) for wish in wishes] + [((WISH, wish), None) for wish in wishes[:3]]
    found += [((WISH,), far) for far in fars]
    return found + [((), None), ([WISH], None), [(WISH,), None], ((WISH,),), ((WISH,), None, None), (WISH, None), *odd_values()]


class BreaksTest(unittest.TestCase):
    def test_told(self):
        self.assertTrue(breaks(SHEET, {"x": 2, "y": 2}, ((WISH,), None)))
        self.assertFalse(breaks(SHEET, {"x": 1, "y": 2}, ((WISH,), None)))
        self.assertFalse(breaks(SHEET, {"x": 2, "y": 2}, ((WISH,), (ZERO, PRICES, 6))))
        self.assertTrue(breaks(sheet=SHEET, point={"y": 2, "x": 2}, claim=((WISH,), (ZERO, PRICES, 7))))
        # An open worth grants what it is not among.
        for wish, wanted in ((("o", (None,), True), True), (("o", (0, 1), True), False), (("o", (0, 1), False), True),
                             (("o", (0, None), False), False)):
            self.assertIs(breaks(SHEET, ZERO, ((wish,), None)), wanted)
        self.assertFalse(breaks(SHEET, ZERO, ((("s", (0,), True), ("s", (1,), True)), None)))
        self.assertFalse(breaks(SHEET, ZERO, ((("s", (0,), True),), (ZERO, PRICES, 0))))
        self.assertTrue(breaks(SHEET, ZERO, ((("s", (0,), True),), (ZERO, PRICES, 1))))

    def test_made_sheets(self):
        told = 0
        for seed in range(120):
            maker = Maker(seed)
            sheet = maker.sheet(5, 3, 3)
            claim = maker.claim(sheet)
            for point in all_points(sheet):
                found = breaks(sheet, point, claim)
                self.assertIs(found, does_break(sheet, point, claim))
                told += found
        self.assertGreater(told, 200)

    def test_errors(self):
        for thing in odd_values():
            with self.assertRaises(BadSheet):
                breaks(thing, None, None)
        with self.assertRaises(Faulty):
            breaks(FAULTY, None, None)
        for thing in odd_points():
            with self.assertRaises(BadPoint):
                breaks(SHEET, thing, None)
        for thing in bad_claims():
            with self.assertRaises(BadClaim):
                breaks(SHEET, ZERO, thing)


def splits(deep, inner=B):
    paper = inner
    for _ in range(deep):
        paper = ("split", "x", (((0,), B), ((1, 2), paper)))
    return paper


class PaperTest(unittest.TestCase):
    def test_papers(self):
        for thing in (B, ("far",), ("point",), splits(1), splits(60), ("split", "y", (((-5, 7),  B), ((1, 2, 3, 4, 5, 6, 7, 8, 9), B), ((0,), B)))):
            self.assertIs(is_paper(SHEET, thing), True)
        self.assertIs(is_paper(sheet=SHEET, thing=splits(2)), True)

    def test_no_papers(self):
        self.assertIs(is_paper(SHEET, splits(61)), False)
        self.assertIs(is_paper(SHEET, splits(3000, None)), False)
        two = (((0,), B), ((1,), B))
        for thing in (("bounds", None), ["bounds"], "bounds", ("split",), ("leaf",), ("split", "x"), ("split", "x", two, two),
                      ("split", "s", two), ("split", "z", two), ("split", None, two), ("split", ["x"], two), ("split", "x", list(two)),
                      ("split", "x", two[:1]), ("split", "x", ()), ("split", "x", two + (((2,),),)), ("split", "x", two + ([(2,), B],)),
                      ("split", "x", two + (((), B),)), ("split", "x", two + (((1, 0), B),)), ("split", "x", two + (((1, 1), B),)),
                      ("split", "x", two + (([1], B),)), ("split", "x", two + (((True,), B),)), ("split", "x", two + (((1,), ("x",)),)),
                      ("split", "x", two + ((tuple(range(10)), B),)), ("split", "x", two + (((1,), splits(60)),)), *odd_values()):
            self.assertIs(is_paper(SHEET, thing), False)

    def test_errors(self):
        for thing in odd_values():
            with self.assertRaises(BadSheet):
                is_paper(thing, None)
        with self.assertRaises(Faulty):
            is_paper(FAULTY, None)


class LeafBoxesTest(unittest.TestCase):
    def test_told(self):
        box = {"y": (0, 2), "x": (0, 1, 2)}
        paper = ("split", "x", (((0, 1), B), ((1, 2), ("split", "y", (((2,), ("far",)), ((0,), ("point",)))))))
        found = leaf_boxes(SHEET, box, paper)
        self.assertEqual(found, [((0,), {"x": (0, 1), "y": (0, 2)}, "bounds"), ((1, 0), {"x": (1, 2), "y": (2,)}, "far"),
                                 ((1, 1), {"x": (1, 2), "y": (0,)}, "point")])
        self.assertEqual([list(one[1]) for one in found], [["x", "y"]] * 3)
        found = leaf_boxes(sheet=SHEET, box=box, paper=B)
        self.assertEqual(found, [((), box, "bounds")])
        self.assertIsNot(found[0][1], box)

    def wanted(self, box, paper, path=()):
        """The leaves, and the paths of the wrong splits, in their order."""
        if paper[0] != "split":
            return [(path, box, paper[0])], []
        if not is_right_split(box, paper[1], paper[2]):
            return [], [path]
        leaves, wrong = [], []
        for k, (numbers, inner) in enumerate(paper[2]):
            more, bad = self.wanted({**box, paper[1]: numbers}, inner, path + (k,))
            leaves += more
            wrong += bad
        return leaves, wrong

    def test_made_papers(self):
        met = 0
        for seed in range(200):
            maker = Maker(seed)
            sheet = maker.sheet(2, 3, 4)
            box = maker.box(sheet)
            paper = some_paper(maker, sheet, box, 4, 8)
            self.assertTrue(is_paper(sheet, paper))
            leaves, wrong = self.wanted(box, paper)
            if wrong:
                met += 1
                with self.assertRaises(BadSplit) as caught:
                    leaf_boxes(sheet, box, paper)
                self.assertEqual(caught.exception.path, wrong[0])
            else:
                self.assertEqual(leaf_boxes(sheet, box, paper), leaves)
        self.assertGreater(met, 10)

    def test_errors(self):
        box = whole(SHEET)
        for thing in odd_values():
            with self.assertRaises(BadSheet):
                leaf_boxes(thing, None, None)
            with self.assertRaises(BadBox):
                leaf_boxes(SHEET, thing, None)
            with self.assertRaises(BadPaper):
                leaf_boxes(SHEET, box, thing)
        with self.assertRaises(Faulty):
            leaf_boxes(FAULTY, None, None)
        with self.assertRaises(BadPaper):
            leaf_boxes(SHEET, box, splits(61))
        for parts in ((((0, 1, 2), B), ((0,), B)), (((0,), B), ((1,), B)), (((0, 1), B), ((2, 3), B)), (((0,), B), ((0,), B))):
            with self.assertRaises(BadSplit) as caught:
                leaf_boxes(SHEET, box, ("split", "x", parts))
            self.assertEqual(caught.exception.path, ())


if __name__ == "__main__":
    unittest.main()
