import unittest
from itertools import combinations

from tests.making import Maker, named_point, names_in_order, odd_values, order_points, worth_table
from tests.test_forks import LEAST, XY
from whysheets.errors import BadFork, BadName, BadPoint, BadPrices, OtherOrder
from whysheets.forks import fork_from
from whysheets.joins import joined
from whysheets.partings import families, idle, nearest_parting, parting, untwin

ONES = {"x": 1, "y": 1}
ZERO = {"x": 0, "y": 0}


def changed_at_some(maker, table):
    """Some worths of a table with a few changes."""
    return [maker.number(-1, 2) if maker.chance(9) else worth for worth in table.values()]


class PartingTest(unittest.TestCase):
    def test_made_forks(self):
        for seed in range(200):
            maker = Maker(seed)
            order = maker.order(maker.number(0, 4))
            fork = fork_from(order, maker.worths(order))
            one = worth_table(fork)
            other = fork_from(order, changed_at_some(maker, one))
            two = worth_table(other)
            apart = [numbers for numbers in order_points(order) if one[numbers] != two[numbers]]
            found = parting(fork, other)
            self.assertEqual(found, named_point(order, apart[0]) if apart else None)
            if apart:
                self.assertEqual(list(found), sorted(found))
            self.assertIsNone(parting(fork, fork))
            point = {name: maker.number(low, high) for name, low, high in maker.shuffled(order)}
            prices = {name: maker.number(1, 3) for name in maker.shuffled(names_in_order(order))}
            wanted = None
            for numbers in apart:
                there = named_point(order, numbers)
                price = sum(prices[name] * abs(there[name] - point[name]) for name in there)
                if wanted is None or price < wanted[0]:
                    wanted = (price, there)
            found = nearest_parting(fork, other, point, prices)
            self.assertEqual(found, wanted)
            if wanted is not None:
                self.assertEqual(list(found[1]), sorted(found[1]))

    def test_told(self):
        greatest = fork_from(XY, [max(x, y) for x in range(3) for y in range(3)])
        self.assertEqual(parting(fork=LEAST, other=greatest), {"x": 0, "y": 1})
        self.assertEqual(nearest_parting(fork=LEAST, other=greatest, point={"x": 2, "y": 2}, prices={"x": 3, "y": 2}), (2, {"x": 2, "y": 1}))
        # Of two that are equally dear the least one.
        self.assertEqual(nearest_parting(LEAST, greatest, {"x": 1, "y": 1}, ONES), (1, {"x": 0, "y": 1}))
        self.assertIsNone(nearest_parting(LEAST, LEAST, ZERO, ONES))
        one, other = ("fork", (), (("leaf", 0),)), ("fork", (), (("leaf", None),))
        self.assertEqual((parting(one, other), nearest_parting(one, other, {}, {})), ({}, (0, {})))
        # Prices may be greater than those of sheets.
        self.assertEqual(nearest_parting(LEAST, greatest, ZERO, {"x": 10 ** 9, "y": 10 ** 9 - 1})[0], 10 ** 9 - 1)

    def test_errors(self):
        other = fork_from(XY[::-1], [0] * 9)
        for thing in odd_values():
            for function in (lambda *told: parting(*told), lambda *told: nearest_parting(*told, None, None)):
                with self.assertRaises(BadFork):
                    function(thing, None)
                with self.assertRaises(BadFork):
                    function(LEAST, thing)
            with self.assertRaises(BadPoint):
                nearest_parting(LEAST, LEAST, thing, None)
            with self.assertRaises(BadPrices):
                nearest_parting(LEAST, LEAST, ZERO, thing)
        with self.assertRaises(OtherOrder):
            parting(LEAST, other)
        with self.assertRaises(OtherOrder):
            nearest_parting(LEAST, other, None, None)
        for point in ({"x": 0}, {"x": 0, "y": 3}, {"x": True, "y": 0}):
            with self.assertRaises(BadPoint):
                nearest_parting(LEAST, LEAST, point, None)
        for prices in ({"x": 1}, {"x": 1, "y": 0}, {"x": 1, "y": True}, {"x": 1, "y": 1, "z": 1}, {"x": 1, "z": 1}):
            with self.assertRaises(BadPrices):
                nearest_parting(LEAST, LEAST, ZERO, prices)


class TwinsTest(unittest.TestCase):
    def swapped(self, order, numbers, one, other):
        names = names_in_order(order)
        row = list(numbers)
        row[names.index(one)], row[names.index(other)] = row[names.index(other)], row[names.index(one)]
        return tuple(row)

    def made(self, seed):
        """A fork of which some names can be exchanged."""
        maker = Maker(seed)
        order = tuple((name, 0, 2 if maker.chance(4) else 1) for name in maker.shuffled("vwxyz")[:maker.number(1, 5)])
        kinds = [maker.number(0, 1) for _ in order]
        known = {}
        told = []
        for numbers in order_points(order):
            key = tuple(sorted(n + 10 * k for n, k in zip(numbers, kinds)))
            if key not in known:
                known[key] = None if maker.chance(6) else maker.number(0, 2)
            told.append(known[key])
        return order, fork_from(order, told)

    def test_made_forks(self):
        for seed in range(80):
            order, fork = self.made(seed)
            table = worth_table(fork)
            ranges = {name: (low, high) for name, low, high in order}
            twins = {}
            for one, other in combinations(sorted(ranges), 2):
                if ranges[one] != ranges[other]:
                    twins[(one, other)] = False
                    with self.assertRaises(BadName):
                        untwin(fork, one, other)
                    continue
                bad = [n for n in order_points(order) if table[n] != table[self.swapped(order, n, one, other)]]
                wanted = named_point(order, bad[0]) if bad else None
                self.assertEqual(untwin(fork, one, other), wanted)
                self.assertEqual(untwin(fork, other, one), wanted)
                twins[(one, other)] = not bad
            found = families(fork)
            self.assertEqual(list(found), sorted(tuple(sorted(lot)) for lot in found))
            self.assertEqual(sorted(name for lot in found for name in lot), sorted(ranges))
            for one, other in twins:
                self.assertEqual(any(one in lot and other in lot for lot in found), twins[(one, other)])
            asked = {numbers: worth for numbers, worth in table.items()}
            names = names_in_order(order)
            without = [name for k, name in enumerate(names)
                       if all(asked[n] == asked[n[:k] + (order[k][1],) + n[k + 1:]] for n in asked)]
            self.assertEqual(idle(fork), tuple(sorted(without)))

    def test_told(self):
        self.assertIsNone(untwin(fork=LEAST, one="x", other="y"))
        self.assertEqual(families(fork=LEAST), (("x", "y"),))
        self.assertEqual(idle(fork=LEAST), ())
        minus = fork_from(XY[::-1], [x - y for y in range(3) for x in range(3)])
        self.assertEqual(untwin(minus, "x", "y"), {"x": 1, "y": 0})
        self.assertEqual(list(untwin(minus, "x", "y")), ["x", "y"])
        self.assertEqual(families(minus), (("x",), ("y",)))
        leaf = ("fork", XY[::-1], (("leaf", 0),))
        self.assertEqual((idle(leaf), families(leaf)), (("x", "y"), (("x", "y"),)))
        self.assertEqual((idle(("fork", (), (("leaf", 0),))), families(("fork", (), (("leaf", 0),)))), ((), ()))
        # Twins have the same low and high ones.
        for triple in (("y", 1, 3), ("y", 0, 3)):
            self.assertEqual(families(("fork", (("x", 0, 2), triple), (("leaf", 0),))), (("x",), ("y",)))

    def test_errors(self):
        for thing in odd_values():
            with self.assertRaises(BadFork):
                idle(thing)
            with self.assertRaises(BadFork):
                families(thing)
            with self.assertRaises(BadFork):
                untwin(thing, None, None)
            with self.assertRaises(BadName):
                untwin(LEAST, thing, "y")
            with self.assertRaises(BadName):
                untwin(LEAST, "x", thing)
        other = ("fork", (("x", 0, 2), ("y", 0, 2), ("z", 1, 3)), (("leaf", 0),))
        for one, two in (("x", "x"), ("x", "w"), ("w", "x"), ("x", "z"), (("x",), "y")):
            with self.assertRaises(BadName):
                untwin(other, one, two)


if __name__ == "__main__":
    unittest.main()
