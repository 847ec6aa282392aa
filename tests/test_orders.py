import unittest
from itertools import combinations, permutations, product

from tests.making import Maker, Odd, names_in_order, named_point, odd_values, order_points, worth_table
from tests.test_forks import LEAST, XY, big_nodes
from whysheets.errors import BadAt, BadFork, BadName, BadNames, BadOrder, TooMany
from whysheets.forks import fork_from, is_fork, worth_at
from whysheets.orders import are_fair, exchanged, fewest, levels, reordered, width


def made_fork(seed, most=4, open_in=8):
    maker = Maker(seed)
    order = maker.order(maker.number(0, most))
    return maker, fork_from(order, maker.worths(order, 3, open_in))


def in_order(fork, order):
    """The fork of the same worths, made anew from all points."""
    names = names_in_order(fork[1])
    table = worth_table(fork)
    told = []
    for numbers in order_points(order):
        point = named_point(order, numbers)
        told.append(table[tuple(point[name] for name in names)])
    return fork_from(order, told)


def questions(fork):
    return len([node for node in fork[2] if node[0] != "leaf"])


class ReorderedTest(unittest.TestCase):
    def test_told(self):
        found = reordered(LEAST, XY[::-1])
        self.assertEqual(found, fork_from(XY[::-1], [0, 0, 0, 0, 1, 1, 0, 1, 2]))
        self.assertEqual(reordered(fork=LEAST, order=XY), LEAST)
        leaf = ("fork", (), (("leaf", None),))
        self.assertEqual(reordered(leaf, ()), leaf)

    def test_made_forks(self):
        for seed in range(120):
            maker, fork = made_fork(seed)
            order = tuple(maker.shuffled(fork[1]))
            found = reordered(fork, order)
            self.assertTrue(is_fork(found))
            self.assertEqual(found, in_order(fork, order))
            self.assertEqual(reordered(found, fork[1]), fork)

    def test_errors(self):
        for thing in odd_values():
            with self.assertRaises(BadFork):
                reordered(thing, None)
            with self.assertRaises(BadOrder):
                reordered(LEAST, thing)
        for order in (list(XY), XY[:1], XY + (("z", 0, 0),), (("x", 0, 2), ("y", 0, 1)), (("x", 0, 2), ("z", 0, 2)),
                      (("x", 0, 2), ("x", 0, 2)), (["x", 0, 2], ("y", 0, 2)), ("x", "y")):
            with self.assertRaises(BadOrder):
                reordered(LEAST, order)

    def test_too_many_nodes(self):
        # A sum of three products of two names each is small only where the two stand side by side.
        order = tuple((name, 1, 9) for name in "abcdef")
        fork = products_sum(order)
        self.assertLess(len(fork[2]), 4000)
        self.assertTrue(is_fork(fork))
        apart = tuple(order[k] for k in (0, 2, 4, 1, 3, 5))
        with self.assertRaises(TooMany) as caught:
            reordered(fork, apart)
        self.assertEqual(caught.exception.most, 4000)


def products_sum(order):
    """The fork of ab + cd + ef."""
    met = {}
    nodes = []

    def add(k, done, last):
        """The index of the node behind k numbers; last is the one that waits for its factor."""
        key = (k, done, last)
        if k % 2 and last == 0:
            return add(k + 1, done, 0)
        if key not in met:
            met[key] = at = len(nodes)
            nodes.append(("leaf", done))
            if k < len(order):
                behind = [add(k + 1, done + last * n, 0) if k % 2 else add(k + 1, done, n) for n in range(1, 10)]
                nodes[at] = (order[k][0], tuple(behind))
        return met[key]

    add(0, 0, 0)
    return ("fork", order, tuple(nodes))


class ExchangedTest(unittest.TestCase):
    def test_made_forks(self):
        for seed in range(120):
            _, fork = made_fork(seed)
            order = list(fork[1])
            for at in range(len(order) - 1):
                other = order[:at] + [order[at + 1], order[at]] + order[at + 2:]
                found = exchanged(fork, at)
                self.assertEqual(found, in_order(fork, tuple(other)))
                before, behind = levels(fork), levels(found)
                for name in names_in_order(order[:at] + order[at + 2:]):
                    self.assertEqual(before[name], behind[name])
        self.assertEqual(exchanged(fork=LEAST, at=0), reordered(LEAST, XY[::-1]))

    def test_errors(self):
        for thing in odd_values():
            with self.assertRaises(BadFork):
                exchanged(thing, None)
            if not (isinstance(thing, int) and thing == 0 and not isinstance(thing, bool)):
                with self.assertRaises(BadAt):
                    exchanged(LEAST, thing)
        for fork, at in ((LEAST, 1), (LEAST, -1), (("fork", (), (("leaf", 0),)), 0), (("fork", XY[:1], (("leaf", 0),)), 0)):
            with self.assertRaises(BadAt):
                exchanged(fork, at)


class LevelsTest(unittest.TestCase):
    def test_told(self):
        self.assertEqual(levels(LEAST), {"x": 1, "y": 2})
        self.assertEqual(levels(fork=("fork", XY[::-1], (("leaf", 0),))), {"x": 0, "y": 0})
        self.assertEqual(list(levels(("fork", (("y", 0, 1), ("x", 0, 1)), (("y", (1, 2)), ("leaf", 0), ("leaf", 1))))), ["x", "y"])
        self.assertEqual(levels(("fork", (), (("leaf", 0),))), {})
        for seed in range(40):
            _, fork = made_fork(seed)
            for name in names_in_order(fork[1]):
                self.assertEqual(levels(fork)[name], len([node for node in fork[2] if node[0] == name]))

    def test_errors(self):
        for thing in odd_values():
            with self.assertRaises(BadFork):
                levels(thing)


class WidthTest(unittest.TestCase):
    def test_is_the_level_in_any_order(self):
        for seed in range(60):
            maker, fork = made_fork(seed)
            names = names_in_order(fork[1])
            for name in names:
                others = maker.shuffled([one for one in names if one != name])
                ahead = others[:maker.number(0, len(others))]
                found = width(fork, tuple(ahead), name)
                triples = {triple[0]: triple for triple in fork[1]}
                for _ in range(2):
                    ahead = maker.shuffled(ahead)
                    behind = maker.shuffled([one for one in others if one not in ahead])
                    order = tuple(triples[one] for one in ahead + [name] + behind)
                    self.assertEqual(levels(in_order(fork, order))[name], found)
        self.assertEqual(width(fork=LEAST, ahead=("x",), name="y"), 2)
        self.assertEqual(width(LEAST, (), "y"), 1)

    def test_errors(self):
        for thing in odd_values():
            with self.assertRaises(BadFork):
                width(thing, None, None)
            if thing != () or isinstance(thing, Odd):
                with self.assertRaises(BadNames):
                    width(LEAST, thing, None)
            with self.assertRaises(BadName):
                width(LEAST, ("x",), thing)
        for ahead in (["x"], ("x", "x"), ("z",), "x", ("x", None)):
            with self.assertRaises(BadNames):
                width(LEAST, ahead, "y")
        for name in ("x", "z", ("y",), None):
            with self.assertRaises(BadName):
                width(LEAST, ("x",), name)


class FewestTest(unittest.TestCase):
    def lots(self, fork):
        names = sorted(names_in_order(fork[1]))
        return [lot for k in range(len(names) + 1) for lot in combinations(names, k)]

    def wanted(self, fork):
        """By going through all orders."""
        prices = {lot: None for lot in self.lots(fork)}
        best = None
        for way in permutations(sorted(fork[1])):
            found = in_order(fork, way)
            asked = levels(found)
            for k in range(len(way) + 1):
                lot = tuple(sorted(names_in_order(way[:k])))
                price = sum(asked[name] for name in lot)
                prices[lot] = price if prices[lot] is None else min(price, prices[lot])
            if best is None or questions(found) < best[0]:
                best = (questions(found), way)
        return best + (prices,)

    def test_against_all_orders(self):
        for seed in range(60):
            _, fork = made_fork(seed)
            found = fewest(fork)
            self.assertEqual(found, self.wanted(fork))
            self.assertEqual(list(found[2]), sorted(found[2]))
            self.assertTrue(are_fair(fork, found[2]))

    def test_told(self):
        self.assertEqual(fewest(fork=LEAST), (3, XY, {(): 0, ("x",): 1, ("x", "y"): 3, ("y",): 1}))
        self.assertEqual(fewest(("fork", (), (("leaf", 3),))), (0, (), {(): 0}))
        # Of all orders of a leaf the one that is first by its names.
        self.assertEqual(fewest(("fork", XY[::-1], (("leaf", 3),)))[1], XY)

    def test_fair_prices(self):
        """No price can be greater, and lesser ones are fair if they do not rise too fast."""
        for seed in range(40):
            maker, fork = made_fork(seed, 3)
            prices = fewest(fork)[2]
            for lot in prices:
                if lot:
                    greater = dict(prices)
                    greater[lot] += 1
                    self.assertFalse(are_fair(fork, greater))
            other = {lot: prices[lot] - maker.number(0, 2) if lot else 0 for lot in prices}
            fair = True
            for lot in prices:
                for name in names_in_order(fork[1]):
                    if name not in lot:
                        more = tuple(sorted(lot + (name,)))
                        fair = fair and other[more] <= other[lot] + width(fork, lot, name)
            self.assertEqual(are_fair(fork=fork, thing=other), fair)

    def test_what_is_fair(self):
        prices = {("y",): 1, (): 0, ("x", "y"): 3, ("x",): 1}
        self.assertTrue(are_fair(LEAST, prices))
        self.assertTrue(are_fair(LEAST, {("y",): -5, (): 0, ("x", "y"): -898, ("x",): -900}))
        self.assertFalse(are_fair(LEAST, {("y",): -5, (): 0, ("x", "y"): -897, ("x",): -900}))
        for thing in [{}, {(): 0}, {**prices, (): 1}, {**prices, (): -1}, {**prices, ("x",): True}, {**prices, ("x",): None},
                      {**prices, (): False}, {**prices, ("y", "x"): 3}, {**prices, ("z",): 0}, {**prices, ("x",): "1"},
                      {("y",): 1, (): 0, ("y", "x"): 3, ("x",): 1}, {**prices, ("x", "y"): 4}, list(prices), *odd_values()]:
            self.assertIs(are_fair(LEAST, thing), False)
        self.assertTrue(are_fair(("fork", (), (("leaf", 1),)), {(): 0}))

    def test_errors(self):
        for thing in odd_values():
            with self.assertRaises(BadFork):
                fewest(thing)
            with self.assertRaises(BadFork):
                are_fair(thing, {})

    def test_seven_names(self):
        order = tuple((name, 0, 1) for name in "gfedcba")
        told = [int(sum(p[k] * p[k + 1] for k in (0, 2, 4)) % 2) for p in product(range(2), repeat=7)]
        count, best, prices = fewest(fork_from(order, told))
        self.assertEqual(len(prices), 128)
        self.assertEqual(questions(reordered(fork_from(order, told), best)), count)
        self.assertEqual(prices[tuple("abcdefg")], count)


if __name__ == "__main__":
    unittest.main()
