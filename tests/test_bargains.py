import unittest

from tests.judging import wrong_ones
from tests.making import Odd, odd_values
from tests.playing import is_formed
from tests.test_plain import FAULTY
from tests.turning import SHEET as VOTE, bad_wish_lists
from tests.wishing import PRICES, SHEET, WEIGHTS, WHOLE, WISHES, ZERO, Told, bad_boxes, made_case, price_to, way_to
from whysheets.bargains import bargains, front_paper, is_front_paper, tradeoff
from whysheets.boxes import whole
from whysheets.errors import BadBargains, BadBox, BadLimit, BadPoint, BadPrices, BadSheet, BadWeights, BadWishes, Faulty
from whysheets.quarrels import cheapest_peace
from whysheets.texts import read_sheet
from whysheets.wishes import repair

TOLD = (SHEET, ZERO, WHOLE, PRICES, WISHES, WEIGHTS)
FIRST = (0, 5, ())
LAST = (3, 3, (("a", 1), ("b", 1)))
BOTH = [FIRST, LAST]


class Deals(Told):
    """Bargains and front papers over explicit boxes."""

    def __init__(self, sheet, point, box, prices, wishes, weights):
        super().__init__(sheet, box, wishes)
        self.sheet, self.point, self.prices, self.wishes, self.weights = sheet, point, prices, wishes, weights
        self.ways = [(price_to(point, prices, one), self.weight(lot, weights), way_to(point, one))
                     for one, lot in zip(self.points, self.granted)]

    def bargains(self):
        best = [one for one in self.ways
                if not any(other[0] <= one[0] and other[1] <= one[1] and other[:2] != one[:2] for other in self.ways)]
        return sorted(one for one in best if one == min(other for other in best if other[:2] == one[:2]))

    def is_front(self, found, box, thing):
        """Whether what a test changed by hand is a front paper over a box."""
        points = [{}]
        for name in sorted(box):
            points = [{**point, name: number} for point in points for number in box[name]]
        if thing[0] == "as":
            _, k, pairs = thing
            if not 0 <= k < len(found) or any(price_to(self.point, self.prices, point) < found[k][0] for point in points):
                return False
            indexes = [index for index, _ in pairs]
            if indexes != sorted(set(indexes)) or not set(indexes) <= set(range(self.count)):
                return False
            if sum(self.weights[index] for index in indexes) < found[k][1]:
                return False
            return all(is_formed(paper) and wrong_ones(self.sheet, box, ((self.wishes[index],), None), paper) == [] for index, paper in pairs)
        _, name, parts = thing
        if len(parts) < 2 or any(set(numbers) >= set(box[name]) or not set(numbers) <= set(box[name]) for numbers, _ in parts):
            return False
        if {number for numbers, _ in parts for number in numbers} != set(box[name]):
            return False
        return all(self.is_front(found, {**box, name: numbers}, part) for numbers, part in parts)


def changed(maker, thing):
    if thing[0] == "split":
        parts = thing[2]
        if maker.chance(2):
            k = maker.below(len(parts))
            return ("split", thing[1], parts[:k] + ((parts[k][0], changed(maker, parts[k][1])),) + parts[k + 1:])
        return maker.one_of([("split", thing[1], parts[1:]), ("split", thing[1], parts[::-1]), parts[0][1], ("split", thing[1], parts + parts[:1]),
                             ("split", thing[1], ((parts[0][0], parts[1][1]), (parts[1][0], parts[0][1])))])
    word, k, pairs = thing
    return maker.one_of([(word, k + 1, pairs), (word, max(k - 1, 0), pairs), (word, k, pairs[1:]), (word, k, pairs + ((3, ("bounds",)),)),
                         (word, k, tuple((index, ("point",)) for index, _ in pairs)), (word, k, pairs + pairs), (word, k, ((0, ("bounds",)),) + pairs[1:])])


def deal(seed):
    maker, sheet, box, wishes = made_case(seed, 4)
    return maker, (sheet, maker.point(sheet), box, maker.prices(sheet), wishes, tuple(maker.number(1, 5) for _ in wishes))


class BargainsTest(unittest.TestCase):
    def test_example(self):
        self.assertEqual(bargains(SHEET, ZERO, WHOLE, {"a": 1, "b": 2, "c": 3}, WISHES, (5, 3, 1)), [(0, 5, ()), (3, 3, (("a", 1), ("b", 1)))])
        for limit, wanted in ((0, FIRST), (2, FIRST), (3, LAST), (10 ** 9, LAST)):
            self.assertEqual(tradeoff(sheet=SHEET, point=ZERO, box=WHOLE, prices=PRICES, wishes=WISHES, weights=WEIGHTS, limit=limit), wanted)
        # The point is not in this box: nothing is to be had for less than 5.
        box = {"a": (0, 1), "b": (1,), "c": (1,)}
        self.assertIsNone(tradeoff(SHEET, ZERO, box, PRICES, WISHES, WEIGHTS, 4))
        self.assertEqual(tradeoff(SHEET, ZERO, box, PRICES, WISHES, WEIGHTS, 5), (5, 4, (("b", 1), ("c", 1))))
        self.assertEqual(bargains(sheet=SHEET, point=ZERO, box=box, prices=PRICES, wishes=WISHES, weights=WEIGHTS)[0][0], 5)

    def test_the_least_way(self):
        line = read_sheet("input a from 0 to 2 input b from 0 to 2 cell s = a + b")
        prices = {"a": 1, "b": 1}
        self.assertEqual(bargains(line, {"a": 0, "b": 0}, whole(line), prices, [("s", (2,), True)], (7,)),
                         [(0, 7, ()), (2, 0, (("a", 1), ("b", 1)))])

    def test_front_papers(self):
        paper = front_paper(*TOLD)
        self.assertIs(is_front_paper(*TOLD, BOTH, paper), True)
        self.assertIs(is_front_paper(*TOLD, tuple(BOTH), paper), True)
        self.assertIs(is_front_paper(*TOLD, BOTH[::-1], paper), False)
        quarrel = ("split", "a", (((0,), ("bounds",)), ((1,), ("bounds",))))
        box = {"a": (0,), "b": (0,), "c": (0, 1)}
        told = (SHEET, ZERO, box, PRICES, WISHES, WEIGHTS)
        self.assertEqual(bargains(*told), [FIRST])
        self.assertIs(is_front_paper(*told, [FIRST], ("as", 0, ((0, ("bounds",)),))), True)
        self.assertIs(is_front_paper(sheet=SHEET, point=ZERO, box=box, prices=PRICES, wishes=WISHES, weights=WEIGHTS, found=[FIRST],
                                     thing=("as", 0, ((0, ("split", "c", (((0,), ("point",)), ((1,), ("point",)))),),))), True)
        for thing in (("as", 0, ()), ("as", 1, ((0, ("bounds",)),)), ("as", -1, ((0, ("bounds",)),)), ("as", False, ((0, ("bounds",)),)),
                      ("as", 0, [(0, ("bounds",))]), ("as", 0, ([0, ("bounds",)],)), ("as", 0, ((False, ("bounds",)),)), ("as", 0, ((1, ("bounds",)),)),
                      ("as", 0, ((0, quarrel),)), ("as", 0, ((0, "bounds"),)), ("as", 0, ((0, ("bounds",)), (0, ("bounds",)))), ("as", 0, ((0, ("bounds",)), (3, ("bounds",)))),
                      ("as", 0, ((0, ("bounds",)), (1, ("bounds",)))), ("as", 0), ("as", 0, ((0, ("bounds",)),), 1), ["as", 0, ((0, ("bounds",)),)], (Odd(), 0, ((0, ("bounds",)),)),
                      ("as", Odd(), ((0, ("bounds",)),)), ("as", 0, Odd()), ("split", "c", (((0,), ("as", 0, ((0, ("bounds",)),))),)), ("bounds",), *odd_values()):
            self.assertIs(is_front_paper(*told, [FIRST], thing), False, thing)
        leaf = ("as", 0, ((0, ("bounds",)),))
        self.assertIs(is_front_paper(*told, [FIRST], ("split", "c", (((0,), leaf), ((1,), leaf)))), True)
        for parts in ((((0,), leaf), ((0,), leaf)), (((0,), leaf), ((0, 1), leaf)), (((0,), leaf), ((1, 2), leaf)), (((0,), leaf), ((1,), ("as", 0, ()))),
                      [((0,), leaf), ((1,), leaf)], (((0,), leaf), [(1,), leaf]), (((0,), leaf), ([1], leaf)), (((0,), leaf), ((True,), leaf)), (((0,), leaf), ((), leaf)),
                      (((0,), leaf), ((1,), None)), Odd(), None):
            self.assertIs(is_front_paper(*told, [FIRST], ("split", "c", parts)), False, parts)
        for name in ("a", "s", None, Odd(), 1):
            self.assertIs(is_front_paper(*told, [FIRST], ("split", name, (((0,), leaf), ((1,), leaf)))), False)
        # A weight of 0 needs no papers, and an empty list has no front paper.
        free = (SHEET, ZERO, WHOLE, PRICES, WISHES[1:], (3, 1))
        self.assertEqual(bargains(*free), [FIRST[:1] + (0, ())])
        self.assertIs(is_front_paper(*free, [(0, 0, ())], ("as", 0, ())), True)
        self.assertIs(is_front_paper(*free, [], ("as", 0, ())), False)

    def test_what_is_found(self):
        paper = front_paper(*TOLD)
        for found in ({FIRST: True}, None, [None], [FIRST, (0, 4, ())], [(1, 5, ())], [(0, 5)], [[0, 5, ()]], [(0, 5, [])], [(0, 5, ("a", 1))],
                      [(1, 6, (("a", 1),)), FIRST], [(0, 5, (("a", 0),))], [(1, 5, (("a", 2),))], [(False, 5, ())], [(0, None, ())], [(0, Odd(), ())], [(Odd(), 5, ())],
                      [(0, 5, Odd())], [(3, 3, (("b", 1), ("a", 1)))], [(2, 3, (("a", 1), ("a", 1)))],
                      *[thing for thing in odd_values() if not (isinstance(thing, (list, tuple)) and not thing)]):
            with self.assertRaises(BadBargains):
                is_front_paper(*TOLD, found, paper)
        with self.assertRaises(BadBargains):
            is_front_paper(SHEET, ZERO, {**WHOLE, "b": (1,)}, PRICES, WISHES, WEIGHTS, [FIRST], paper)
        # Any ways will do, in any order and more than once, if they are good enough.
        more = [(1, 8, (("a", 1),)), LAST, FIRST, FIRST]
        swapped = {0: 2, 1: 1}
        rename = lambda thing: (("as", swapped[thing[1]], thing[2]) if thing[0] == "as"
                                else thing[:2] + (tuple((numbers, rename(part)) for numbers, part in thing[2]),))
        self.assertIs(is_front_paper(*TOLD, more, rename(paper)), True)

    def test_made_bargains(self):
        met = changes = 0
        for seed in range(200):
            maker, passed = deal(seed)
            told = Deals(*passed)
            found = bargains(*passed)
            self.assertEqual(found, told.bargains())
            for limit in (0, 1, 2, 3, 5, 8):
                within = [one for one in found if one[0] <= limit]
                self.assertEqual(tradeoff(*passed, limit), within[-1] if within else None)
            sheet, point, box, prices, wishes, weights = passed
            self.assertEqual(found[-1][1], cheapest_peace(sheet, box, wishes, weights)[0])
            if found[-1][1] == 0:
                self.assertEqual(found[-1][::2], repair(sheet, point, box, prices, wishes))
            paper = front_paper(*passed)
            self.assertTrue(told.is_front(found, box, paper))
            self.assertIs(is_front_paper(*passed, found, paper), True)
            for _ in range(4):
                thing = changed(maker, paper)
                self.assertIs(is_front_paper(*passed, found, thing), told.is_front(found, box, thing), thing)
                changes += told.is_front(found, box, thing)
            # Without one of the bargains no paper will do: each is the only one so good.
            for k in range(len(found)):
                self.assertIs(is_front_paper(*passed, found[:k] + found[k + 1:], paper), False)
            met += len(found) > 1
        self.assertGreater(met, 30)
        self.assertGreater(changes, 100)

    def test_for_which_lists_there_is_a_paper(self):
        """There is one exactly if for each bargain the list has a triple with at most its price and at most its weight."""
        met = {True: 0, False: 0}
        for seed in range(200, 320):
            maker, passed = deal(seed)
            told = Deals(*passed)
            found = [one for one in told.ways if maker.chance(2)][:6] + [one for one in told.bargains() if not maker.chance(4)]
            box = passed[2]
            # Down to single points nothing is left out that a paper could show.
            def full(rows, names):
                if names:
                    name, rest = names[0], names[1:]
                    if len(box[name]) == 1:
                        return full({**rows, name: box[name][0]}, rest)
                    return ("split", name, tuple(((n,), full({**rows, name: n}, rest)) for n in box[name]))
                at = told.points.index(rows)
                price, weight, _ = told.ways[at]
                unmet = [k for k in range(told.count) if k not in told.granted[at]]
                let = [k for k, one in enumerate(found) if one[0] <= price and one[1] <= weight]
                return ("as", let[0] if let else 0, tuple((k, ("point",)) for k in unmet))
            wanted = all(any(one[0] <= price and one[1] <= weight for one in found) for price, weight, _ in told.bargains())
            self.assertIs(is_front_paper(*passed, found, full({}, sorted(box))), wanted)
            met[wanted] += 1
        self.assertGreater(min(met.values()), 10)

    def test_errors(self):
        calls = [lambda *told: bargains(*told), lambda *told: tradeoff(*told, True), lambda *told: front_paper(*told),
                 lambda *told: is_front_paper(*told, None, None)]
        for call in calls:
            for thing in odd_values():
                with self.assertRaises(BadSheet):
                    call(thing, None, None, None, None, None)
                with self.assertRaises(BadPoint):
                    call(SHEET, thing, None, None, None, None)
            with self.assertRaises(Faulty):
                call(FAULTY, None, None, None, None, None)
            for box in bad_boxes():
                with self.assertRaises(BadBox):
                    call(SHEET, ZERO, box, None, None, None)
            for prices in ({"a": 1, "b": 1}, {**PRICES, "d": 1}, {**PRICES, "a": 0}, {**PRICES, "a": 1000}, *odd_values()):
                with self.assertRaises(BadPrices):
                    call(SHEET, ZERO, WHOLE, prices, None, None)
            for wishes, at in bad_wish_lists():
                with self.assertRaises(BadWishes) as caught:
                    call(VOTE, ZERO, WHOLE, PRICES, wishes, None)
                self.assertEqual(caught.exception.at, at)
            for weights in ((1, 1), (1, 1, 1, 1), [1, 1, 1], (1, 0, 1), (1, 100, 1), (1, True, 1), *odd_values()):
                with self.assertRaises(BadWeights):
                    call(SHEET, ZERO, WHOLE, PRICES, WISHES, weights)
        for limit in (-1, 10 ** 9 + 1, True, None, "1", Odd(), *[thing for thing in odd_values() if thing not in (0, 1)]):
            with self.assertRaises(BadLimit):
                tradeoff(*TOLD, limit)


if __name__ == "__main__":
    unittest.main()
