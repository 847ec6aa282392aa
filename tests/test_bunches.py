import unittest
from itertools import combinations

from tests.making import Maker, named_point, names_in_order, odd_values, order_points, worth_table
from tests.test_forks import LEAST, XY
from whysheets.bunches import apart, bunches
from whysheets.errors import BadFork, BadNames, OpenWorth
from whysheets.forks import fork_from, is_fork
from whysheets.joins import joined

LEAF = ("fork", (), (("leaf", 7),))


def sums(maker, order):
    """The worths of a sum of forks, each of a few names."""
    total = [0 for _ in order_points(order)]
    for _ in range(maker.number(1, 3)):
        own = [k for k in range(len(order)) if maker.chance(2)]
        known = {}
        for at, numbers in enumerate(order_points(order)):
            key = tuple(numbers[k] for k in own)
            known.setdefault(key, maker.number(-3, 3))
            total[at] += known[key]
    return total


def crossed(order, names, one, other):
    """The two points, with the numbers of names exchanged."""
    inner = [name in names for name in names_in_order(order)]
    return (tuple(b if k else a for a, b, k in zip(one, other, inner)),
            tuple(a if k else b for a, b, k in zip(one, other, inner)))


def asked(fork):
    return {node[0] for node in fork[2]} - {"leaf"}


class ApartTest(unittest.TestCase):
    def test_example(self):
        self.assertEqual(apart(LEAST, ("x",)), ("four", {"x": 0, "y": 0}, {"x": 1, "y": 1}))

    def test_told(self):
        plus = fork_from(XY, [5 + x * x - y for x in range(3) for y in range(3)])
        one, other = fork_from(XY, [x * x for x in range(3) for _ in range(3)]), fork_from(XY, [5 - y for _ in range(3) for y in range(3)])
        self.assertEqual(apart(fork=plus, names=("x",)), ("sum", one, other))
        self.assertEqual(apart(plus, ()), ("sum", fork_from(XY, [0] * 9), plus))
        self.assertEqual(apart(LEAF, ()), ("sum", ("fork", (), (("leaf", 0),)), LEAF))
        self.assertEqual(apart(LEAST, ("x", "y"))[0], "sum")
        self.assertEqual(apart(LEAST, ("y", "x")), apart(LEAST, ("x", "y")))

    def test_made_forks(self):
        met = {"sum": 0, "four": 0}
        for seed in range(150):
            maker = Maker(seed)
            order = maker.order(maker.number(0, 4))
            fork = fork_from(order, sums(maker, order))
            table = worth_table(fork)
            names = tuple(name for name in maker.shuffled(names_in_order(order)) if maker.chance(2))
            found = apart(fork, names)
            met[found[0]] += 1
            bad = None
            for one in order_points(order):
                for other in order_points(order):
                    a, b = crossed(order, names, one, other)
                    if bad is None and table[one] + table[other] != table[a] + table[b]:
                        bad = (named_point(order, one), named_point(order, other))
            if bad is None:
                word, first, second = found
                self.assertEqual(word, "sum")
                self.assertTrue(is_fork(first) and is_fork(second))
                self.assertEqual(joined("plus", [first, second]), fork)
                self.assertTrue(asked(first) <= set(names))
                self.assertFalse(asked(second) & set(names))
                self.assertEqual(worth_table(first)[order_points(order)[0]], 0)
            else:
                self.assertEqual(found, ("four",) + bad)
                self.assertEqual(bad[0], named_point(order, order_points(order)[0]))
                for point in found[1:]:
                    self.assertEqual(list(point), sorted(point))
        self.assertGreater(min(met.values()), 10)

    def test_errors(self):
        opened = fork_from((("y", 0, 2), ("x", 0, 2)), [0, 0, None, None, 0, 0, 0, 0, 0])
        for thing in odd_values():
            with self.assertRaises(BadFork):
                apart(thing, None)
            if not (isinstance(thing, tuple) and thing == ()):
                with self.assertRaises(BadNames):
                    apart(opened, thing)
        for names in (["x"], ("x", "x"), ("z",), "x", ("x", None)):
            with self.assertRaises(BadNames):
                apart(opened, names)
        for function in (lambda: apart(opened, ("x",)), lambda: bunches(opened)):
            with self.assertRaises(OpenWorth) as caught:
                function()
            self.assertEqual(caught.exception.point, {"x": 2, "y": 0})
            self.assertEqual(list(caught.exception.point), ["x", "y"])


class BunchesTest(unittest.TestCase):
    def test_told(self):
        self.assertEqual(bunches(LEAST), (("x", "y"),))
        self.assertEqual(bunches(fork=fork_from(XY[::-1], [x + y for y in range(3) for x in range(3)])), (("x",), ("y",)))
        self.assertEqual(bunches(("fork", XY[::-1], (("leaf", 3),))), (("x",), ("y",)))
        self.assertEqual(bunches(LEAF), ())

    def test_made_forks(self):
        counts = set()
        for seed in range(120):
            maker = Maker(seed)
            order = maker.order(maker.number(0, 4))
            fork = fork_from(order, sums(maker, order))
            found = bunches(fork)
            counts.add((len(order), len(found)))
            names = sorted(names_in_order(order))
            self.assertEqual(sorted(name for lot in found for name in lot), names)
            self.assertEqual(list(found), sorted(tuple(sorted(lot)) for lot in found))
            # It comes apart by just those names that are put together of whole bunches.
            for k in range(len(names) + 1):
                for lot in combinations(names, k):
                    is_whole = all(set(one) <= set(lot) or not set(one) & set(lot) for one in found)
                    self.assertEqual(apart(fork, lot)[0] == "sum", is_whole)
        self.assertGreater(len(counts), 8)

    def test_errors(self):
        for thing in odd_values():
            with self.assertRaises(BadFork):
                bunches(thing)


if __name__ == "__main__":
    unittest.main()
