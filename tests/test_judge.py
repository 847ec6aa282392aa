import unittest

from tests.judging import leaves_of, some_paper, sure_claim, wrong_ones
from tests.making import Maker, odd_values
from tests.test_papers import B, PRICES, SHEET, WISH, ZERO, bad_claims, splits
from tests.test_plain import FAULTY
from whysheets.boxes import whole
from whysheets.errors import BadBox, BadClaim, BadPaper, BadSheet, BadSplit, Faulty, Wrong
from whysheets.finding import find
from whysheets.judge import judge, pressed, restricted
from whysheets.papers import leaf_boxes

FAR = ("far",)
POINT = ("point",)
WHOLE = whole(SHEET)
CLAIM = ((WISH,), None)
CLAIM_FAR = ((WISH,), (ZERO, PRICES, 6))
SHOWN = ("split", "x", (((0, 1), B), ((2,), ("split", "y", (((0, 1), B), ((2,), FAR))))))


def made_case(seed):
    """A sheet, a box, a claim and a paper, which may be wrong."""
    maker = Maker(seed)
    sheet = maker.sheet(4, 3, 3) if maker.chance(2) else maker.table_sheet(3, 3, 3, 8)
    box = whole(sheet) if maker.chance(2) else maker.box(sheet)
    claim = maker.claim(sheet)
    if maker.chance(2):
        claim = sure_claim(maker, sheet, box)
        return maker, sheet, box, claim, find(sheet, box, claim)[1]
    return maker, sheet, box, claim, some_paper(maker, sheet, box, 4, 10)


class JudgeTest(unittest.TestCase):
    def test_example(self):
        self.assertIsNone(judge(SHEET, {"x": (0, 1), "y": (0, 1, 2)}, CLAIM, B))
        self.assertEqual(judge(SHEET, WHOLE, CLAIM, B), ((), "bounds"))
        self.assertIsNone(judge(SHEET, WHOLE, CLAIM_FAR, SHOWN))
        self.assertEqual(judge(SHEET, WHOLE, CLAIM, SHOWN), ((1, 1), "far"))

    def test_leaves(self):
        one = {"x": (2,), "y": (2,)}
        for box, claim, word, wanted in ((one, CLAIM, "point", False), (one, CLAIM_FAR, "point", True), (one, CLAIM_FAR, "bounds", False),
                                         (one, CLAIM_FAR, "far", True), (one, ((WISH,), (ZERO, PRICES, 7)), "far", False),
                                         ({"x": (1, 2), "y": (1,)}, CLAIM, "point", False), ({"x": (1,), "y": (1,)}, CLAIM, "point", True),
                                         ({"x": (0,), "y": (0,)}, ((("o", (0, 1), True),), None), "bounds", False),
                                         ({"x": (0,), "y": (0,)}, ((("o", (0, 1), True),), None), "point", True),
                                         (one, ((("s", (0,), True), WISH), None), "bounds", True),
                                         (one, ((("s", (4,), False),), None), "bounds", True),
                                         ({"x": (1, 2), "y": (2,)}, ((("s", (4,), False),), None), "bounds", False),
                                         ({"x": (1, 2), "y": (2,)}, ((("s", (3, 4), False),), None), "bounds", True)):
            self.assertEqual(judge(SHEET, box, claim, (word,)), None if wanted else ((), word))

    def test_splits(self):
        for parts, wanted in (((((0,), B), ((1,), B)), True), ((((0, 1, 2), B), ((0,), B)), True), ((((0,), B), ((0,), B)), False),
                              ((((0, 1), B), ((1, 2), B), ((0, 2), B)), None), ((((0,), B), ((1,), B), ((3,), B)), True)):
            found = judge(SHEET, WHOLE, ((("s", (9,), True),), None), ("split", "x", parts))
            self.assertEqual(found, None if wanted is None else ((), "split"))
        # A wrong split is told ahead of what is wrong within it, and the first part ahead of the second.
        bad = ("split", "x", (((0,), POINT), ((1,), POINT)))
        self.assertEqual(judge(SHEET, WHOLE, CLAIM, bad), ((), "split"))
        paper = ("split", "y", (((0, 1), ("split", "y", (((0,), FAR), ((1,), POINT)))), ((2,), bad)))
        self.assertEqual(judge(SHEET, WHOLE, CLAIM, paper), ((0, 0), "far"))

    def test_made_papers(self):
        met = {None: 0, "split": 0, "leaf": 0}
        for seed in range(300):
            _, sheet, box, claim, paper = made_case(seed)
            wrong = wrong_ones(sheet, box, claim, paper)
            found = judge(sheet, box, claim, paper)
            self.assertEqual(found, wrong[0] if wrong else None)
            met[None if not wrong else "split" if wrong[0][1] == "split" else "leaf"] += 1
        self.assertGreater(min(met.values()), 5)

    def test_more_wishes_and_lesser_prices(self):
        for seed in range(80):
            maker, sheet, box, claim, paper = made_case(seed)
            if judge(sheet, box, claim, paper) is None:
                self.assertIsNone(judge(sheet, box, (claim[0] + (maker.wish(sheet),), claim[1]), paper))
                if claim[1] is not None and claim[1][2] > 0:
                    point, prices, price = claim[1]
                    self.assertIsNone(judge(sheet, box, (claim[0], (point, prices, price - 1)), paper))

    def test_errors(self):
        for function in (judge, pressed):
            for thing in odd_values():
                with self.assertRaises(BadSheet):
                    function(thing, None, None, None)
                with self.assertRaises(BadBox):
                    function(SHEET, thing, None, None)
                with self.assertRaises(BadPaper):
                    function(SHEET, WHOLE, CLAIM, thing)
            for thing in bad_claims():
                with self.assertRaises(BadClaim):
                    function(SHEET, WHOLE, thing, None)
            with self.assertRaises(Faulty):
                function(FAULTY, None, None, None)
            with self.assertRaises(BadPaper):
                function(SHEET, WHOLE, CLAIM, splits(61))
        self.assertIsNone(judge(sheet=SHEET, box=WHOLE, claim=CLAIM_FAR, paper=SHOWN))


class PressedTest(unittest.TestCase):
    def test_told(self):
        claim = ((("s", (5,), True),), None)
        long = ("split", "x", (((0,), B), ((1, 2), ("split", "x", (((1,), B), ((2,), B))))))
        self.assertEqual(pressed(SHEET, WHOLE, claim, long), B)
        self.assertEqual(pressed(sheet=SHEET, box=WHOLE, claim=CLAIM_FAR, paper=SHOWN), SHOWN)
        # The bounds go ahead of the distance.
        both = ((("s", (5,), True),), (ZERO, PRICES, 0))
        self.assertEqual(pressed(SHEET, WHOLE, both, FAR), B)
        self.assertEqual(pressed(SHEET, WHOLE, ((WISH,), (ZERO, PRICES, 0)), FAR), FAR)
        one = {"x": (2,), "y": (2,)}
        self.assertEqual(pressed(SHEET, one, CLAIM_FAR, POINT), FAR)
        self.assertEqual(pressed(SHEET, {"x": (0,), "y": (0,)}, ((("o", (0, 1), True),), None), POINT), POINT)
        longer = ("split", "x", (((0,), B), ((1,), B), ((2,), ("split", "y", (((0,), B), ((1,), B), ((2,), POINT))))))
        self.assertEqual(pressed(SHEET, WHOLE, CLAIM_FAR, longer),
                         ("split", "x", (((0,), B), ((1,), B), ((2,), ("split", "y", (((0,), B), ((1,), B), ((2,), FAR)))))))

    def wanted(self, sheet, box, claim, paper):
        for word in ("bounds", "far"):
            if judge(sheet, box, claim, (word,)) is None:
                return (word,)
        if paper[0] != "split":
            return paper
        return ("split", paper[1], tuple((n, self.wanted(sheet, {**box, paper[1]: n}, claim, inner)) for n, inner in paper[2]))

    def test_made_papers(self):
        met = 0
        for seed in range(150):
            _, sheet, box, claim, paper = made_case(seed)
            wrong = wrong_ones(sheet, box, claim, paper)
            if wrong:
                with self.assertRaises(Wrong) as caught:
                    pressed(sheet, box, claim, paper)
                self.assertEqual((caught.exception.path, caught.exception.word), wrong[0])
                continue
            found = pressed(sheet, box, claim, paper)
            self.assertEqual(found, self.wanted(sheet, box, claim, paper))
            self.assertIsNone(judge(sheet, box, claim, found))
            self.assertLessEqual(leaves_of(found), leaves_of(paper))
            self.assertEqual(pressed(sheet, box, claim, found), found)
            met += found != paper
        self.assertGreater(met, 5)


class RestrictedTest(unittest.TestCase):
    def test_told(self):
        self.assertEqual(restricted(SHEET, WHOLE, SHOWN, WHOLE), SHOWN)
        self.assertEqual(restricted(sheet=SHEET, box=WHOLE, paper=SHOWN, smaller={"x": (0, 1), "y": (2,)}), B)
        self.assertEqual(restricted(SHEET, WHOLE, SHOWN, {"x": (1, 2), "y": (0, 2)}),
                         ("split", "x", (((1,), B), ((2,), ("split", "y", (((0,), B), ((2,), FAR)))))))
        self.assertEqual(restricted(SHEET, WHOLE, SHOWN, {"x": (2,), "y": (2,)}), FAR)
        # The first part that has all numbers left takes the place of the split.
        paper = ("split", "x", (((0, 1), POINT), ((1, 2), FAR), ((0, 2), B)))
        self.assertEqual(restricted(SHEET, WHOLE, paper, {"x": (1,), "y": (0,)}), POINT)
        self.assertEqual(restricted(SHEET, WHOLE, paper, {"x": (2,), "y": (0,)}), FAR)
        self.assertEqual(restricted(SHEET, WHOLE, paper, {"x": (0, 2), "y": (0,)}), B)

    def test_made_papers(self):
        met = 0
        for seed in range(150):
            maker, sheet, box, claim, paper = made_case(seed)
            smaller = maker.inner_box(box)
            wrong = [path for path, word in wrong_ones(sheet, box, claim, paper) if word == "split"]
            if wrong:
                with self.assertRaises(BadSplit) as caught:
                    restricted(sheet, box, paper, smaller)
                self.assertEqual(caught.exception.path, wrong[0])
                continue
            found = restricted(sheet, box, paper, smaller)
            leaf_boxes(sheet, smaller, found)
            self.assertLessEqual(leaves_of(found), leaves_of(paper))
            self.assertEqual(found, self.wanted(box, paper, smaller))
            if judge(sheet, box, claim, paper) is None:
                self.assertIsNone(judge(sheet, smaller, claim, found))
                met += found != paper
        self.assertGreater(met, 10)

    def wanted(self, box, paper, smaller):
        if paper[0] != "split":
            return paper
        left = [(tuple(n for n in numbers if n in smaller[paper[1]]), inner) for numbers, inner in paper[2]]
        left = [part for part in left if part[0]]
        for numbers, inner in left:
            if numbers == smaller[paper[1]]:
                return self.wanted(box, inner, smaller)
        return ("split", paper[1], tuple((n, self.wanted(box, inner, {**smaller, paper[1]: n})) for n, inner in left))

    def test_errors(self):
        inner = {"x": (0,), "y": (0, 1)}
        bad = ("split", "x", (((0,), B), ((1,), B)))
        for thing in odd_values():
            with self.assertRaises(BadSheet):
                restricted(thing, None, None, None)
            with self.assertRaises(BadBox):
                restricted(SHEET, thing, None, None)
            with self.assertRaises(BadPaper):
                restricted(SHEET, WHOLE, thing, None)
            with self.assertRaises(BadBox):
                restricted(SHEET, WHOLE, bad, thing)
        with self.assertRaises(Faulty):
            restricted(FAULTY, None, None, None)
        for smaller in ({"x": (0, 1), "y": (0,)}, {"x": (0,), "y": (0, 2)}, {"x": (0,)}):
            with self.assertRaises(BadBox):
                restricted(SHEET, inner, bad, smaller)
        with self.assertRaises(BadSplit) as caught:
            restricted(SHEET, WHOLE, ("split", "y", (((0, 1), B), ((2,), bad))), {"x": (0,), "y": (0,)})
        self.assertEqual(caught.exception.path, (1,))


if __name__ == "__main__":
    unittest.main()
