import unittest

from tests.judging import box_points, does_break, is_right_leaf, leaves_of, sure_claim, wrong_ones
from tests.making import Maker, all_spots, odd_values, worth_rank
from tests.reckoning import Reckoner
from tests.test_papers import PRICES, SHEET, WISH, ZERO, bad_claims
from tests.test_plain import FAULTY
from whysheets.boxes import whole
from whysheets.errors import BadBox, BadClaim, BadSheet, BadSpot, Faulty, TooMany
from whysheets.finding import fewest, find, shortest, worths_over
from whysheets.judge import judge
from whysheets.papers import is_paper
from whysheets.texts import read_sheet

WHOLE = whole(SHEET)
CLAIM = ((WISH,), None)
CLAIM_FAR = ((WISH,), (ZERO, PRICES, 6))


def made_case(seed, widest=3):
    maker = Maker(seed)
    sheet = maker.sheet(4, 3, widest) if maker.chance(2) else maker.table_sheet(3, widest, 3, 8)
    box = whole(sheet) if maker.chance(2) else maker.box(sheet)
    return maker, sheet, box, sure_claim(maker, sheet, box) if maker.chance(2) else maker.claim(sheet)


class FindTest(unittest.TestCase):
    def test_example(self):
        self.assertEqual(find(SHEET, {"x": (0, 1), "y": (0, 1, 2)}, CLAIM), ("paper", ("bounds",)))
        self.assertEqual(find(sheet=SHEET, box=WHOLE, claim=CLAIM), ("point", {"x": 2, "y": 2}))
        word, paper = find(SHEET, WHOLE, CLAIM_FAR)
        self.assertEqual((word, judge(SHEET, WHOLE, CLAIM_FAR, paper)), ("paper", None))

    def test_made_claims(self):
        """There is a right paper exactly if no point breaks the claim."""
        met = {"paper": 0, "point": 0}
        for seed in range(250):
            _, sheet, box, claim = made_case(seed)
            broken = [point for point in box_points(box) if does_break(sheet, point, claim)]
            word, found = find(sheet, box, claim)
            met[word] += 1
            self.assertEqual(word, "point" if broken else "paper")
            if broken:
                self.assertEqual(found, broken[0])
                self.assertEqual(list(found), sorted(found))
            else:
                self.assertTrue(is_paper(sheet, found))
                self.assertEqual(wrong_ones(sheet, box, claim, found), [])
                self.assertIsNone(judge(sheet, box, claim, found))
        self.assertGreater(min(met.values()), 30)

    def test_boxes_with_gaps_and_many_points(self):
        text = "".join(f"input {name} from 0 to 6 " for name in "abcde")
        sheet = read_sheet(text + "cell s = a + b + c + d + e cell t = s * s - s * s cell u = s < 31")
        box = {"a": (0, 1, 2, 3, 4, 5, 6), "b": (0, 6), "c": (1, 3, 5), "d": (0, 1, 2, 3, 4, 5, 6), "e": (0, 5)}
        claim = ((("u", (0,), True),), None)
        self.assertEqual(find(sheet, box, claim), ("paper", ("bounds",)))
        claim = ((("s", (30,), True), ("u", (1,), True)), None)
        self.assertEqual(find(sheet, whole(sheet), claim), ("point", {name: 6 for name in "abcde"}))
        claim = ((("t", (1,), True),), None)
        word, paper = find(sheet, box, claim)
        self.assertEqual((word, judge(sheet, box, claim, paper)), ("paper", None))

    def test_errors(self):
        for function in (find, fewest, shortest):
            for thing in odd_values():
                with self.assertRaises(BadSheet):
                    function(thing, None, None)
                with self.assertRaises(BadBox):
                    function(SHEET, thing, None)
            for thing in bad_claims():
                with self.assertRaises(BadClaim):
                    function(SHEET, WHOLE, thing)
            with self.assertRaises(Faulty):
                function(FAULTY, None, None)


class WorthsOverTest(unittest.TestCase):
    def test_told(self):
        self.assertEqual(worths_over(SHEET, {"x": (0, 2), "y": (1, 2)}, "s"),
                         [(1, {"x": 0, "y": 1}), (2, {"x": 0, "y": 2}), (3, {"x": 2, "y": 1}), (4, {"x": 2, "y": 2})])
        self.assertEqual(worths_over(sheet=SHEET, box=WHOLE, spot="o"), [(None, {"x": 0, "y": 0})])
        self.assertEqual(worths_over(SHEET, {"x": (2,), "y": (0, 1)}, "y"), [(0, {"x": 2, "y": 0}), (1, {"x": 2, "y": 1})])

    def test_made_sheets(self):
        for seed in range(60):
            maker, sheet, box, _ = made_case(seed)
            inputs = [one[1] for one in sheet[1]]
            for spot in all_spots(sheet):
                first = {}
                for point in box_points(box):
                    first.setdefault(Reckoner(sheet, point).worth(spot), point)
                found = worths_over(sheet, box, spot)
                self.assertEqual(found, [(worth, first[worth]) for worth in sorted(first, key=worth_rank)])
                self.assertTrue(all(list(point) == sorted(point) for _, point in found))
                if spot not in inputs:
                    worths = tuple(worth for worth, _ in found)
                    self.assertEqual(find(sheet, box, (((spot, worths, False),), None))[0], "paper")
                    if len(worths) > 1:
                        left = worths[:-1] if maker.chance(2) else worths[1:]
                        self.assertEqual(find(sheet, box, (((spot, left, False),), None))[0], "point")

    def test_errors(self):
        for thing in odd_values():
            with self.assertRaises(BadSheet):
                worths_over(thing, None, None)
            with self.assertRaises(BadBox):
                worths_over(SHEET, thing, None)
            with self.assertRaises(BadSpot):
                worths_over(SHEET, WHOLE, thing)
        with self.assertRaises(Faulty):
            worths_over(FAULTY, None, None)
        for spot in ("r", ("r", 3), ("s", 1)):
            with self.assertRaises(BadSpot):
                worths_over(SHEET, WHOLE, spot)


def fewest_leaves(sheet, box, claim, made):
    """By going through all cuts."""
    key = tuple(sorted(box.items()))
    if key not in made:
        if any(is_right_leaf(sheet, box, claim, word) for word in ("bounds", "far", "point")):
            made[key] = 1
        else:
            made[key] = min([fewest_leaves(sheet, {**box, name: box[name][:k]}, claim, made)
                             + fewest_leaves(sheet, {**box, name: box[name][k:]}, claim, made)
                             for name in box for k in range(1, len(box[name]))])
    return made[key]


def is_cut(box, paper):
    if paper[0] != "split":
        return True
    _, name, parts = paper
    if len(parts) != 2 or parts[0][0] + parts[1][0] != box[name]:
        return False
    return all(is_cut({**box, name: numbers}, inner) for numbers, inner in parts)


class FewestTest(unittest.TestCase):
    def test_example(self):
        self.assertEqual(fewest(SHEET, WHOLE, CLAIM_FAR), 3)
        self.assertIsNone(fewest(SHEET, WHOLE, CLAIM))
        self.assertIsNone(shortest(SHEET, WHOLE, CLAIM))
        self.assertEqual(fewest(sheet=SHEET, box={"x": (0, 1), "y": (0, 1, 2)}, claim=CLAIM), 1)
        paper = ("split", "x", (((0, 1), ("bounds",)), ((2,), ("split", "y", (((0, 1), ("bounds",)), ((2,), ("far",)))))))
        self.assertIsNone(judge(SHEET, WHOLE, CLAIM_FAR, paper))

    def test_made_claims(self):
        counts = set()
        for seed in range(220):
            maker, sheet, box, claim = made_case(seed)
            if any(does_break(sheet, point, claim) for point in box_points(box)):
                self.assertIsNone(fewest(sheet, box, claim))
                self.assertIsNone(shortest(sheet, box, claim))
                continue
            count = fewest(sheet, box, claim)
            counts.add(count)
            self.assertEqual(count, fewest_leaves(sheet, box, claim, {}))
            self.assertLessEqual(count, len(box_points(box)))
            paper = shortest(sheet=sheet, box=box, claim=claim)
            self.assertEqual(leaves_of(paper), count)
            self.assertTrue(is_cut(box, paper))
            self.assertIsNone(judge(sheet, box, claim, paper))
            self.assertLessEqual(fewest(sheet, maker.inner_box(box), claim), count)
            self.assertLessEqual(fewest(sheet, box, (claim[0] + (maker.wish(sheet),), claim[1])), count)
            if claim[1] is not None and claim[1][2] > 0:
                point, prices, price = claim[1]
                self.assertLessEqual(fewest(sheet, box, (claim[0], (point, prices, price - 1))), count)
            for name in box:
                if len(box[name]) > 1:
                    k = maker.number(1, len(box[name]) - 1)
                    parts = [fewest(sheet, {**box, name: part}, claim) for part in (box[name][:k], box[name][k:])]
                    self.assertLessEqual(count, sum(parts))
        self.assertGreater(len(counts), 3)

    def test_too_many(self):
        def sheet_of(*sizes):
            inputs = "".join(f"input {name} from 1 to {size} " for name, size in zip("abcdefg", sizes))
            return read_sheet(inputs + "cell s = a + b")

        claim = ((("s", (99,), True),), None)
        # 45 * 45 = 2025, 45 * 66 = 2970, 45 * 45 * 3 = 6075, 3000 = 10 * 10 * 10 * 3, 3 to the power 7 = 2187, 15 * 15 * 15 = 3375.
        for sizes, fits in (((9, 9), True), ((9, 9, 2), False), ((4, 4, 4, 2), True), ((5, 5, 5), False), ((2,) * 7, True),
                            ((4, 4, 4, 2, 1, 1), True), ((4, 4, 4, 3), False), ((5, 5, 4), True), ((3, 4, 9), True), ((7, 7, 3), False)):
            sheet = sheet_of(*sizes)
            if fits:
                self.assertEqual(fewest(sheet, whole(sheet), claim), 1)
            else:
                for function in (fewest, shortest):
                    with self.assertRaises(TooMany) as caught:
                        function(sheet, whole(sheet), claim)
                    self.assertEqual(caught.exception.most, 3000)
                    # Also where a point breaks the claim.
                    with self.assertRaises(TooMany):
                        function(sheet, whole(sheet), ((("s", (2,), True),), None))
                    with self.assertRaises(BadClaim):
                        function(sheet, whole(sheet), None)
        # The numbers of the box count, not those of the ranges.
        sheet = sheet_of(9, 9, 9)
        self.assertEqual(fewest(sheet, {"a": (1, 5, 9), "b": tuple(range(1, 10)), "c": (2, 3)}, claim), 1)


if __name__ == "__main__":
    unittest.main()
