import unittest
from itertools import permutations

from tests.making import Maker, named_point, names_in_order, odd_values, order_points, worth_table
from tests.test_forks import LEAST, XY
from whysheets.errors import BadFork, BadPoint, OpenWorth
from whysheets.forks import fork_from
from whysheets.joins import joined
from whysheets.partings import families, idle
from whysheets.sways import shares, sway

ZERO = {"x": 0, "y": 0}
TWOS = {"x": 2, "y": 2}


def some_point(maker, order):
    return {name: maker.number(low, high) for name, low, high in maker.shuffled(order)}


class SwayTest(unittest.TestCase):
    def test_told(self):
        # By y: none where x is 0, at x 1 the number 0 against 1 and 2, at x 2 all pairs.
        self.assertEqual(sway(LEAST), {"x": 10, "y": 10})
        self.assertEqual(sway(fork=("fork", XY[::-1], (("leaf", 3),))), {"x": 0, "y": 0})
        self.assertEqual(list(sway(("fork", XY[::-1], (("leaf", 3),)))), ["x", "y"])
        self.assertEqual(sway(("fork", (), (("leaf", None),))), {})

    def test_made_forks(self):
        for seed in range(120):
            maker = Maker(seed)
            order = maker.order(maker.number(0, 4))
            fork = fork_from(order, maker.worths(order))
            table = worth_table(fork)
            wanted = {}
            for k, (name, low, high) in enumerate(order):
                pairs = [(n, other) for n in table for other in range(low, high + 1)]
                wanted[name] = len([1 for n, other in pairs if table[n[:k] + (other,) + n[k + 1:]] != table[n]])
            found = sway(fork)
            self.assertEqual(found, wanted)
            self.assertEqual(list(found), sorted(found))
            self.assertEqual(tuple(name for name in found if not found[name]), idle(fork))

    def test_errors(self):
        for thing in odd_values():
            with self.assertRaises(BadFork):
                sway(thing)


class SharesTest(unittest.TestCase):
    def wanted(self, fork, base, point):
        """By going through all sequences."""
        names = names_in_order(fork[1])
        table = worth_table(fork)
        found = {name: 0 for name in names}
        count = 0
        for way in permutations(names):
            here = dict(base)
            count += 1
            for name in way:
                before = table[tuple(here[one] for one in names)]
                here[name] = point[name]
                found[name] += table[tuple(here[one] for one in names)] - before
        return found, count

    def test_told(self):
        self.assertEqual(shares(LEAST, ZERO, TWOS), {"x": 2, "y": 2})
        self.assertEqual(shares(fork=LEAST, base=TWOS, point={"x": 1, "y": 0}), {"x": -1, "y": -3})
        self.assertEqual(shares(LEAST, ZERO, ZERO), {"x": 0, "y": 0})
        self.assertEqual(shares(("fork", (), (("leaf", 7),)), {}, {}), {})

    def test_made_forks(self):
        for seed in range(120):
            maker = Maker(seed)
            order = maker.order(maker.number(0, 4))
            fork = fork_from(order, maker.worths(order, 5, 10 ** 6))
            base, point = some_point(maker, order), some_point(maker, order)
            wanted, count = self.wanted(fork, base, point)
            found = shares(fork, base, point)
            self.assertEqual(found, wanted)
            self.assertEqual(list(found), sorted(found))
            table = worth_table(fork)
            names = names_in_order(order)
            gain = table[tuple(point[name] for name in names)] - table[tuple(base[name] for name in names)]
            self.assertEqual(sum(found.values()), gain * count)
            for name in idle(fork):
                self.assertEqual(found[name], 0)
            for lot in families(fork):
                for one in lot:
                    if base[one] == base[lot[0]] and point[one] == point[lot[0]]:
                        self.assertEqual(found[one], found[lot[0]])
            other = fork_from(order, maker.worths(order, 5, 10 ** 6))
            both = shares(joined("plus", [fork, other]), base, point)
            second = shares(other, base, point)
            self.assertEqual(both, {name: found[name] + second[name] for name in found})

    def test_open_worths(self):
        told = 0
        for seed in range(120):
            maker = Maker(seed)
            order = maker.order(maker.number(1, 4))
            fork = fork_from(order, maker.worths(order, 5, 6))
            base, point = some_point(maker, order), some_point(maker, order)
            names = names_in_order(order)
            between = [n for n, worth in worth_table(fork).items() if worth is None
                       and all(n[k] in (base[name], point[name]) for k, name in enumerate(names))]
            if between:
                told += 1
                with self.assertRaises(OpenWorth) as caught:
                    shares(fork, base, point)
                self.assertEqual(caught.exception.point, named_point(order, between[0]))
                self.assertEqual(list(caught.exception.point), sorted(names))
            else:
                shares(fork, base, point)
        self.assertGreater(told, 20)
        # The sequence of the order tells which point is least.
        fork = fork_from((("y", 0, 1), ("x", 0, 1)), [0, None, None, 0])
        with self.assertRaises(OpenWorth) as caught:
            shares(fork, {"x": 0, "y": 0}, {"x": 1, "y": 1})
        self.assertEqual(caught.exception.point, {"x": 1, "y": 0})
        # What is not between the points is no matter.
        self.assertEqual(shares(fork, {"x": 0, "y": 0}, {"x": 0, "y": 0}), {"x": 0, "y": 0})

    def test_errors(self):
        opened = fork_from(XY, [None] * 9)
        for thing in odd_values():
            with self.assertRaises(BadFork):
                shares(thing, None, None)
            with self.assertRaises(BadPoint):
                shares(opened, thing, ZERO)
            with self.assertRaises(BadPoint):
                shares(opened, ZERO, thing)
        for point in ({"x": 0}, {"x": 0, "y": 3}, {"x": 0, "y": 0, "z": 0}, {"x": 0, "y": False}):
            with self.assertRaises(BadPoint):
                shares(opened, ZERO, point)
        with self.assertRaises(OpenWorth):
            shares(opened, ZERO, ZERO)


if __name__ == "__main__":
    unittest.main()
