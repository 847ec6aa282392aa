import unittest

from tests.making import (Maker, named_point, names_in_order, odd_values, order_points, worth_rank, worth_table)
from tests.test_forks import LEAST, XY
from whysheets.counts import counted, rank, ranked
from whysheets.errors import BadFork, BadNumber, BadPoint, BadWeights, BadWorth
from whysheets.forks import fork_from, worth_at

ONES = {"x": (1, 1, 1), "y": (1, 1, 1)}


def made_fork(seed):
    maker = Maker(seed)
    order = maker.order(maker.number(0, 4))
    return maker, fork_from(order, maker.worths(order))


class CountedTest(unittest.TestCase):
    def test_example(self):
        self.assertEqual(counted(LEAST, ONES), {0: 5, 1: 3, 2: 1})
        self.assertEqual(counted(fork=LEAST, weights={"y": (2, 0, -3), "x": (1, 10, 100)}), {0: 1 * -1 + 110 * 2, 1: -30, 2: -300})

    def test_made_forks(self):
        for seed in range(150):
            maker, fork = made_fork(seed)
            weights = {name: tuple(maker.number(-2, 5) for _ in range(low, high + 1)) for name, low, high in maker.shuffled(fork[1])}
            wanted = {}
            for numbers, worth in worth_table(fork).items():
                weight = 1
                for (name, low, _), number in zip(fork[1], numbers):
                    weight *= weights[name][number - low]
                wanted[worth] = wanted.get(worth, 0) + weight
            found = counted(fork, weights)
            self.assertEqual(found, wanted)
            self.assertEqual(list(found), sorted(wanted, key=worth_rank))

    def test_edges(self):
        self.assertEqual(counted(("fork", (), (("leaf", None),)), {}), {None: 1})
        self.assertEqual(counted(("fork", XY, (("leaf", 4),)), {"x": (1, 2, 3), "y": (0, 5, 6)}), {4: 66})
        # A worth of a leaf is told also where its weight is 0.
        self.assertEqual(counted(LEAST, {"x": (0, 0, 0), "y": (1, 1, 1)}), {0: 0, 1: 0, 2: 0})
        big = 10 ** 9 - 1
        self.assertEqual(counted(LEAST, {"x": (big,) * 3, "y": (big,) * 3})[2], big * big)
        order = tuple((name, 0, 8) for name in "abcdefg")
        self.assertEqual(counted(("fork", order, (("leaf", 0),)), {name: (1,) * 9 for name in "abcdefg"}), {0: 9 ** 7})

    def test_errors(self):
        for thing in odd_values():
            with self.assertRaises(BadFork):
                counted(thing, None)
            with self.assertRaises(BadWeights):
                counted(LEAST, thing)
        for weights in ({"x": (1, 1, 1)}, {**ONES, "z": (1,)}, {"x": (1, 1, 1), "z": (1, 1, 1)}, {"x": [1, 1, 1], "y": (1, 1, 1)},
                        {**ONES, "x": (1, 1)}, {**ONES, "x": (1,) * 4}, {**ONES, "x": (1, True, 1)}, {**ONES, "x": (1, None, 1)}):
            with self.assertRaises(BadWeights):
                counted(LEAST, weights)


class RankTest(unittest.TestCase):
    def test_made_forks(self):
        for seed in range(120):
            _, fork = made_fork(seed)
            met = {}
            for numbers, worth in worth_table(fork).items():
                point = named_point(fork[1], numbers)
                number = met.get(worth, 0)
                self.assertEqual(rank(fork, point), number)
                found = ranked(fork, worth, number)
                self.assertEqual(found, point)
                self.assertEqual(list(found), sorted(point))
                met[worth] = number + 1
            for worth in met:
                with self.assertRaises(BadNumber):
                    ranked(fork, worth, met[worth])

    def test_told(self):
        self.assertEqual(rank(fork=LEAST, point={"y": 2, "x": 1}), 1)
        self.assertEqual(ranked(fork=LEAST, worth=1, number=2), {"x": 2, "y": 1})
        leaf = ("fork", (), (("leaf", 7),))
        self.assertEqual((rank(leaf, {}), ranked(leaf, 7, 0)), (0, {}))
        order = tuple((name, 0, 8) for name in "gfedcba")
        point = {name: k for k, name in enumerate("gfedcba")}
        number = sum(k * 9 ** (6 - k) for k in range(7))
        self.assertEqual(rank(("fork", order, (("leaf", 0),)), point), number)
        self.assertEqual(ranked(("fork", order, (("leaf", 0),)), 0, number), point)

    def test_errors(self):
        for thing in odd_values():
            with self.assertRaises(BadFork):
                rank(thing, None)
            with self.assertRaises(BadFork):
                ranked(thing, None, None)
            with self.assertRaises(BadPoint):
                rank(LEAST, thing)
            if not (isinstance(thing, int) and thing in (0, 1, 2) and not isinstance(thing, bool)):
                with self.assertRaises(BadWorth):
                    ranked(LEAST, thing, None)
            if not isinstance(thing, int) or isinstance(thing, bool):
                with self.assertRaises(BadNumber):
                    ranked(LEAST, 0, thing)
        for point in ({"x": 0}, {"x": 0, "y": 3}, {"x": True, "y": 0}, {"x": 0, "y": 0, "z": 0}):
            with self.assertRaises(BadPoint):
                rank(LEAST, point)
        for worth, number, error in ((None, 0, BadWorth), (3, 0, BadWorth), (0, -1, BadNumber), (0, 5, BadNumber), (2, 1, BadNumber)):
            with self.assertRaises(error):
                ranked(LEAST, worth, number)
        with self.assertRaises(BadWorth):
            ranked(LEAST, True, 0)


if __name__ == "__main__":
    unittest.main()
