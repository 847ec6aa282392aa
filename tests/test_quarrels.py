import unittest
from fractions import Fraction
from itertools import permutations

from tests.making import Odd, odd_values
from tests.wishing import SHEET, WEIGHTS, WHOLE, WISHES, Told, least_ones, lots_of, made_case, refuses_all
from whysheets.boxes import whole
from whysheets.errors import BadIndexes, BadLimit, BadWeights
from whysheets.finding import find
from whysheets.quarrels import (bar, blame, cheapest_peace, idle_wishes, is_bar, is_peace, is_quarrel, peace_point, peace_within,
                                peaces, quarrel_within, quarrels)

TOLD = (SHEET, WHOLE, WISHES)
NOT_INDEXES = [(1, 0), (0, 0), [0], (3,), (-1,), (True,), (None,), (Odd(),), 0, "0", *[thing for thing in odd_values() if thing not in ((), (1,))]]


def left_of(lot, holds):
    """What is left when from the last one on each is taken out whose taking out leaves one."""
    for k in sorted(lot, reverse=True):
        rest = tuple(one for one in lot if one != k)
        lot = rest if rest in holds else lot
    return lot


def hits(lot, others):
    return all(set(lot) & set(one) for one in others)


class QuarrelsTest(unittest.TestCase):
    def test_example(self):
        self.assertEqual(quarrels(SHEET, WHOLE, WISHES), [(0, 1)])
        self.assertEqual(peaces(sheet=SHEET, box=WHOLE, wishes=tuple(WISHES)), [(0,), (1,)])
        self.assertEqual(idle_wishes(*TOLD), (2,))
        self.assertEqual(blame(*TOLD), {0: (1, 2), 1: (1, 2), 2: (0, 1)})
        self.assertEqual(cheapest_peace(*TOLD, (5, 3, 1)), (3, (1,)))
        self.assertEqual(bar(*TOLD, (5, 3, 1)), [(0, 1)])
        self.assertIs(is_bar(*TOLD, (5, 3, 1), 3, [(0, 1)]), True)
        self.assertIs(is_bar(*TOLD, (5, 3, 1), 4, [(0, 1)]), False)

    def test_all_granted_at_once(self):
        told = (SHEET, WHOLE, WISHES[1:])
        self.assertEqual((quarrels(*told), peaces(*told), idle_wishes(*told)), ([], [()], (0, 1)))
        self.assertEqual((cheapest_peace(*told, (3, 1)), bar(*told, (3, 1))), ((0, ()), []))
        self.assertIs(is_bar(*told, (3, 1), 0, []), True)
        self.assertIs(is_bar(*told, (3, 1), 1, []), False)
        self.assertEqual(blame(*told), {0: (0, 1), 1: (0, 1)})
        never = [("s", (7,), True)] * 3
        self.assertEqual((quarrels(SHEET, WHOLE, never), peaces(SHEET, WHOLE, never)), ([(0,), (1,), (2,)], [(0, 1, 2)]))
        self.assertEqual(blame(SHEET, WHOLE, never), {k: (1, 1) for k in range(3)})

    def test_any_values(self):
        for thing, quarrel, peace in (((), False, False), ((0,), False, True), ((1,), False, True), ((2,), False, False), ((0, 1), True, True),
                                      ((0, 2), False, True), ((0, 1, 2), True, True), *[(thing, False, False) for thing in NOT_INDEXES]):
            self.assertIs(is_quarrel(*TOLD, thing), quarrel, thing)
            self.assertIs(is_peace(*TOLD, thing), peace, thing)

    def test_within(self):
        self.assertEqual(quarrel_within(*TOLD, (0, 1, 2)), (0, 1))
        self.assertIsNone(quarrel_within(*TOLD, (0, 2)))
        self.assertIsNone(quarrel_within(*TOLD, ()))
        self.assertEqual(peace_within(*TOLD, (0, 1, 2)), (0,))
        self.assertEqual(peace_within(*TOLD, (1, 2)), (1,))
        self.assertIsNone(peace_within(*TOLD, (2,)))
        self.assertEqual(peace_point(*TOLD, (0,)), {"a": 0, "b": 0, "c": 0})
        self.assertEqual(peace_point(sheet=SHEET, box=WHOLE, wishes=WISHES, indexes=(1,)), {"a": 1, "b": 0, "c": 1})
        self.assertEqual(list(peace_point(SHEET, {"c": (1,), "b": (1,), "a": (0, 1)}, WISHES, (1, 2))), ["a", "b", "c"])
        self.assertIsNone(peace_point(*TOLD, (2,)))
        for function in (quarrel_within, peace_within, peace_point):
            for thing in NOT_INDEXES:
                with self.assertRaises(BadIndexes):
                    function(*TOLD, thing)

    def test_bars(self):
        for thing in ([(0, 1), (0, 1)], [(0, 1, 2), (0, 1)], ((0, 1),), [(0, 1)]):
            self.assertIs(is_bar(*TOLD, WEIGHTS, 3, thing), True, thing)
        self.assertIs(is_bar(*TOLD, WEIGHTS, 1, [(0, 1, 2)]), True)
        self.assertIs(is_bar(*TOLD, WEIGHTS, 2, [(0, 1, 2)]), False)
        for thing in ([(0,)], [(0, 2)], [[0, 1]], [(1, 0)], {(0, 1): True}, [()], [(0, 1), None], [(0, True)], [Odd()],
                      *[thing for thing in odd_values() if not (isinstance(thing, (list, tuple)) and not thing)]):
            self.assertIs(is_bar(*TOLD, WEIGHTS, 0, thing), False, thing)
        self.assertIs(is_bar(*TOLD, WEIGHTS, 0, []), True)
        self.assertIs(is_bar(*TOLD, WEIGHTS, 0, ()), True)

    def test_made_wishes(self):
        met = 0
        for seed in range(250):
            maker, sheet, box, wishes = made_case(seed, 5)
            told = Told(sheet, box, wishes)
            passed = (sheet, box, wishes)
            least, calm = least_ones(told.quarrels), least_ones(told.peaces)
            self.assertEqual((quarrels(*passed), peaces(*passed)), (least, calm))
            for lot in told.lots:
                self.assertIs(is_quarrel(*passed, lot), lot in told.quarrels)
                self.assertIs(is_peace(*passed, lot), lot in told.peaces)
                self.assertEqual(quarrel_within(*passed, lot), left_of(lot, told.quarrels) if lot in told.quarrels else None)
                self.assertEqual(peace_within(*passed, lot), left_of(lot, told.peaces) if lot in told.peaces else None)
                rest = set(range(len(wishes))) - set(lot)
                points = [point for point, granted in zip(told.points, told.granted) if rest <= set(granted)]
                self.assertEqual(peace_point(*passed, lot), points[0] if points else None)
                # Peaces meet all quarrels, quarrels all peaces.
                self.assertEqual(lot in told.peaces, hits(lot, told.quarrels))
                self.assertEqual(lot in told.quarrels, hits(lot, told.peaces))
                if lot and maker.chance(4):
                    claim = (tuple(wishes[k] for k in lot), None)
                    self.assertEqual(find(sheet, box, claim)[0] == "paper", lot in told.quarrels)
            self.assertEqual(calm, least_ones([lot for lot in told.lots if hits(lot, least)]))
            used = {k for lot in least for k in lot}
            self.assertEqual(idle_wishes(*passed), tuple(k for k in range(len(wishes)) if k not in used))
            self.assertEqual(used, {k for lot in calm for k in lot})
            met += len(used) > 1
        self.assertGreater(met, 60)

    def test_made_weights(self):
        met = 0
        for seed in range(300, 450):
            maker, sheet, box, wishes = made_case(seed, 5)
            told = Told(sheet, box, wishes)
            passed = (sheet, box, wishes, tuple(maker.number(1, 6) for _ in wishes))
            weigh = lambda lot: sum(passed[3][k] for k in lot)
            least = min((weigh(lot), lot) for lot in told.peaces)
            self.assertEqual(cheapest_peace(*passed), least)
            shown = bar(*passed)
            self.assertEqual(shown, sorted(shown))
            self.assertTrue(set(shown) <= set(least_ones(told.quarrels)))
            self.assertIs(is_bar(*passed, least[0], shown), True)
            self.assertIs(is_bar(*passed, least[0] + 1, shown), False)
            for k in range(len(shown)):
                self.assertIs(is_bar(*passed, least[0], shown[:k] + shown[k + 1:]), False)
            # There is a bar for a limit exactly if no peace weighs less.
            for limit in range(least[0] + 3):
                self.assertIs(is_bar(*passed, limit, told.quarrels), limit <= least[0])
            some = [lot for lot in told.quarrels if maker.chance(2)]
            limit = maker.number(0, 8)
            self.assertIs(is_bar(*passed, limit, some), all(weigh(lot) >= limit for lot in told.lots if hits(lot, some)))
            met += len(shown) > 1
        self.assertGreater(met, 5)

    def test_blame(self):
        split = 0
        for seed in range(500, 580):
            maker, sheet, box, wishes = made_case(seed, 5)
            told = Told(sheet, box, wishes)
            need = {lot: min(len(set(lot) - set(granted)) for granted in told.granted) for lot in told.lots}
            found = blame(sheet, box, wishes)
            self.assertEqual(list(found), list(range(len(wishes))))
            orders = list(permutations(range(len(wishes))))
            for k in found:
                total = sum(need[tuple(sorted(order[:order.index(k) + 1]))] - need[tuple(sorted(order[:order.index(k)]))] for order in orders)
                mean = Fraction(total, len(orders))
                self.assertEqual(found[k], (mean.numerator, mean.denominator))
                split += mean.denominator > 1
            self.assertEqual(sum(Fraction(*share) for share in found.values()), min(len(lot) for lot in told.peaces))
            for k in idle_wishes(sheet, box, wishes):
                self.assertEqual(found[k], (0, 1))
            for one in range(len(wishes)):
                for other in range(one):
                    if wishes[one] == wishes[other]:
                        self.assertEqual(found[one], found[other])
        self.assertGreater(split, 30)

    def test_eight_wishes(self):
        wishes = [("t", (k % 3,), True) for k in range(6)] + [("u", (5,), True), ("u", (5,), False)]
        self.assertEqual(peaces(SHEET, WHOLE, wishes), sorted(tuple(sorted({0, 1, 2, 3, 4, 5, 6} - {k, k + 3})) for k in range(3)))
        self.assertEqual(len(quarrels(SHEET, WHOLE, wishes)), 13)
        self.assertEqual(blame(SHEET, whole(SHEET), wishes)[6], (1, 1))

    def test_errors(self):
        for function, count in ((is_quarrel, 1), (is_peace, 1), (quarrels, 0), (peaces, 0), (quarrel_within, 1), (peace_within, 1), (idle_wishes, 0),
                                (peace_point, 1), (cheapest_peace, 1), (bar, 1), (is_bar, 3), (blame, 0)):
            refuses_all(self, function, count)
        for weights in ((1, 1), (1, 1, 1, 1), [1, 1, 1], (1, 0, 1), (1, 100, 1), (1, True, 1), (1, None, 1), (1, Odd(), 1), 3, *odd_values()):
            for function in (cheapest_peace, bar):
                with self.assertRaises(BadWeights):
                    function(*TOLD, weights)
            with self.assertRaises(BadWeights):
                is_bar(*TOLD, weights, None, None)
        self.assertEqual(cheapest_peace(*TOLD, (99, 99, 99)), (99, (0,)))
        for limit in (-1, 1000, True, False, None, "1", (1,), Odd(), *[thing for thing in odd_values() if thing not in (0, 1)]):
            with self.assertRaises(BadLimit):
                is_bar(*TOLD, WEIGHTS, limit, [])
        self.assertIs(is_bar(*TOLD, WEIGHTS, 999, [(0, 1)]), False)


if __name__ == "__main__":
    unittest.main()
