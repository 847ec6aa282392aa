import unittest
from itertools import permutations, product

from tests.making import Maker, all_points, odd_values, order_points
from whysheets.errors import BadFork, BadOrder, BadPoint, BadWorths, TooMany
from whysheets.forks import fork_from, is_fork, is_order, worth_at, worths_of
from whysheets.plain import worths

XY = (("x", 0, 2), ("y", 0, 2))
LEAST = ("fork", XY, (("x", (1, 2, 4)), ("leaf", 0), ("y", (1, 3, 3)), ("leaf", 1), ("y", (1, 3, 5)), ("leaf", 2)))


def points_of(order):
    """All points of an order, as dicts."""
    return [dict(zip([name for name, _, _ in order], numbers)) for numbers in order_points(order)]


class OrderTest(unittest.TestCase):
    def test_orders(self):
        for thing in ((), (("x", 0, 0),), XY, (("y", 0, 2), ("x", 0, 2)), (("x", -99, -91),), (("x", 91, 99),), (("x", 99, 99),),
                      tuple((name, -4, 4) for name in "abcdefg")):
            self.assertIs(is_order(thing), True)

    def test_no_orders(self):
        for thing in (tuple((name, 0, 0) for name in "abcdefgh"), (("x", 0, 1), ("x", 0, 1)), (("x", 0, 1), ("x", 0, 2)),
                      (("x", 0, 9),), (("x", 1, 0),), (("x", -100, -99),), (("x", 99, 100),), (("leaf", 0, 1),), (("X", 0, 1),),
                      (("x", True, 1),), (("x", 0, True),), (("x", 0),), (("x", 0, 1, 2),), [("x", 0, 1)], (["x", 0, 1],), "x"):
            self.assertIs(is_order(thing), False, thing)
        for thing in odd_values():
            self.assertIs(is_order(thing), thing == () and isinstance(thing, tuple))
        self.assertIs(is_order(thing=XY), True)


class ForkTest(unittest.TestCase):
    def bad(self, *nodes, order=XY):
        self.assertIs(is_fork(("fork", order, nodes)), False, nodes)

    def test_forks(self):
        self.assertIs(is_fork(LEAST), True)
        self.assertIs(is_fork(thing=LEAST), True)
        for worth in (0, -5, 10 ** 12, None):
            self.assertIs(is_fork(("fork", (), (("leaf", worth),))), True)
            self.assertIs(is_fork(("fork", XY, (("leaf", worth),))), True)
        self.assertIs(is_fork(("fork", XY, (("y", (1, 1, 2)), ("leaf", 7), ("leaf", None)))), True)

    def test_no_forks(self):
        nodes = LEAST[2]
        for thing in (list(LEAST), ("fork", XY), ("fork", list(XY), nodes), ("fork", XY, list(nodes)), ("fork", XY, ()),
                      ("leaf", XY, nodes), ("fork", XY, nodes, 1), ("fork", (("x", 0, 2),), nodes), ("fork", XY[::-1], nodes),
                      ("fork", (("x", 0, 2), ("y", 0, 3)), nodes), *odd_values()):
            self.assertIs(is_fork(thing), False)
        self.bad(["leaf", 0])
        self.bad(("leaf", 0, 1))
        self.bad(("leaf",))
        self.bad(("leaf", True))
        self.bad(("leaf", "0"))
        self.bad(("leaf", (0,)))
        for thing in odd_values():
            self.bad(thing)
            self.bad((thing, (1, 1, 2)), ("leaf", 0), ("leaf", 1))
            self.bad(("x", thing), ("leaf", 0), ("leaf", 1))
            self.bad(("x", (1, 2, thing)), ("leaf", 0), ("leaf", 1)) if thing not in (1,) or isinstance(thing, bool) else None
            if thing is not None and (not isinstance(thing, int) or isinstance(thing, bool)):
                self.bad(("leaf", thing))

    def test_questions(self):
        leaves = (("leaf", 0), ("leaf", 1))
        self.bad(("z", (1, 1, 2)), *leaves)
        self.bad(("x", [1, 1, 2]), *leaves)
        self.bad(("x", (1, 2)), *leaves)
        self.bad(("x", (1, 1, 1, 2)), *leaves)
        self.bad(("x", (1, 1, 3)), *leaves)
        self.bad(("x", (1, 1, -1)), *leaves)
        self.bad(("x", (1, 2, True)), *leaves)
        self.bad(("x", (1, 1, 1)), ("leaf", 0))
        self.bad(("x", (0, 0, 1)), ("leaf", 0))
        self.bad(("x", (1,)), ("leaf", 0), order=(("x", 3, 3),))

    def test_children_ask_for_later_names(self):
        self.bad(("y", (1, 2, 2)), ("x", (2, 2, 3)), ("leaf", 0), ("leaf", 1))
        self.bad(("x", (1, 2, 2)), ("x", (2, 2, 3)), ("leaf", 0), ("leaf", 1))

    def test_no_two_nodes_are_equal(self):
        self.bad(("x", (1, 1, 2)), ("leaf", 0), ("leaf", 0))
        self.bad(("x", (1, 4, 2)), ("y", (2, 2, 3)), ("leaf", 0), ("leaf", 1), ("y", (2, 2, 3)))

    def test_numbered_as_they_are_met(self):
        self.bad(("x", (2, 1, 1)), ("leaf", 0), ("leaf", 1))
        self.bad(("leaf", 0), ("leaf", 1))
        self.bad(("x", (1, 1, 2)), ("leaf", 0), ("leaf", 1), ("leaf", 2))
        # The leaf 1 is met behind the first y, so it comes ahead of the second y.
        self.bad(("x", (1, 2, 3)), ("leaf", 0), ("y", (1, 4, 4)), ("y", (1, 4, 5)), ("leaf", 1), ("leaf", 2))

    def test_all_ways_to_number(self):
        """Of all sequences of the nodes of a fork only one is a fork."""
        nodes = LEAST[2]
        right = 0
        for way in permutations(range(1, 6)):
            way = (0,) + way
            old = {at: k for k, at in enumerate(way)}
            made = tuple(node if node[0] == "leaf" else (node[0], tuple(old[child] for child in node[1]))
                         for node in (nodes[at] for at in way))
            right += is_fork(("fork", XY, made))
        self.assertEqual(right, 1)


class WorthsTest(unittest.TestCase):
    def test_example(self):
        self.assertEqual(fork_from(XY, [min(x, y) for x in range(3) for y in range(3)]), LEAST)
        self.assertEqual(worths_of(LEAST), [0, 0, 0, 0, 1, 1, 0, 1, 2])
        self.assertEqual(fork_from(order=XY, worths=(0, 0, 0, 0, 1, 1, 0, 1, 2)), LEAST)
        self.assertEqual(worths_of(fork=LEAST), worths_of(LEAST))

    def test_worth_at(self):
        for x, y in product(range(3), repeat=2):
            self.assertEqual(worth_at(LEAST, {"y": y, "x": x}), min(x, y))
        self.assertEqual(worth_at(fork=LEAST, point={"x": 2, "y": 2}), 2)

    def test_order_of_no_names(self):
        for worth in (None, 0, -7):
            fork = ("fork", (), (("leaf", worth),))
            self.assertEqual(fork_from((), [worth]), fork)
            self.assertEqual(worths_of(fork), [worth])
            self.assertEqual(worth_at(fork, {}), worth)

    def test_one_leaf(self):
        self.assertEqual(fork_from(XY, [4] * 9), ("fork", XY, (("leaf", 4),)))
        self.assertEqual(worths_of(("fork", XY, (("leaf", None),))), [None] * 9)

    def test_ranges_of_one_number(self):
        order = (("x", 3, 3), ("y", -1, 0), ("z", 5, 5))
        fork = fork_from(order, [7, None])
        self.assertEqual(fork, ("fork", order, (("y", (1, 2)), ("leaf", 7), ("leaf", None))))
        self.assertIsNone(worth_at(fork, {"x": 3, "y": 0, "z": 5}))

    def test_made_forks(self):
        for seed in range(300):
            maker = Maker(seed)
            order = maker.order(maker.number(0, 4))
            told = maker.worths(order)
            fork = fork_from(order, told)
            self.assertTrue(is_fork(fork))
            self.assertEqual(fork[1], order)
            self.assertEqual(worths_of(fork), told)
            if seed % 5 == 0:
                self.assertEqual([worth_at(fork, point) for point in points_of(order)], told)

    def test_equal_exactly_if_all_worths_are(self):
        order = (("x", 0, 1), ("y", 3, 4), ("z", 0, 0))
        forks = {}
        for told in product((0, 1, None), repeat=4):
            forks[told] = fork_from(order, list(told))
        self.assertEqual(len(set(forks.values())), 81)

    def test_no_fork_has_the_worths_of_another(self):
        """All tuples of few nodes that are forks have worths of their own."""
        order = (("x", 0, 1), ("y", 0, 1))
        seen = {}
        pairs = list(product(range(4), repeat=2))
        nodes = [("leaf", 0), ("leaf", 1)] + [(name, pair) for name in "xy" for pair in pairs]
        for count in range(1, 5):
            for told in product(nodes, repeat=count):
                fork = ("fork", order, told)
                if is_fork(fork):
                    self.assertEqual(seen.setdefault(tuple(worths_of(fork)), fork), fork)
        self.assertEqual(len(seen), 14)

    def test_worths_of_sheets(self):
        for seed in range(40):
            maker = Maker(seed)
            sheet = maker.sheet()
            order = tuple(maker.shuffled([one[1:] for one in sheet[1]]))
            told = {tuple(point[name] for name, _, _ in order): worths(sheet, point) for point in all_points(sheet)}
            for spot in list(told.values())[0]:
                fork = fork_from(order, [told[numbers][spot] for numbers in order_points(order)])
                for numbers in order_points(order):
                    point = dict(zip([name for name, _, _ in order], numbers))
                    self.assertEqual(worth_at(fork, point), told[numbers][spot])

    def test_too_many_nodes(self):
        # All worths are different: 1, 4, 32 and 288 questions.
        order = (("x", 0, 3), ("y", 0, 7), ("z", 0, 8), ("w", 0, 8))
        self.assertEqual(len(fork_from(order, list(range(2592)))[2]), 1 + 4 + 32 + 288 + 2592)
        order = (("x", 0, 4), ("y", 0, 8), ("z", 0, 8), ("w", 0, 8))
        # 3555 leaves and 1, 5, 44 and 395 questions, those not told that have one leaf alone.
        told = [min(k, 3554) for k in range(3645)]
        fork = fork_from(order, told)
        self.assertEqual(len(fork[2]), 4000)
        self.assertTrue(is_fork(fork))
        self.assertEqual(worths_of(fork), told)
        with self.assertRaises(TooMany) as caught:
            fork_from(order, [min(k, 3555) for k in range(3645)])
        self.assertEqual(caught.exception.most, 4000)

    def test_forks_with_more_nodes_are_still_forks(self):
        order = (("x", 0, 8), ("y", 0, 8), ("z", 0, 8), ("w", 0, 6))
        nodes = big_nodes(order)
        self.assertGreater(len(nodes), 4000)
        self.assertTrue(is_fork(("fork", order, nodes)))
        self.assertEqual(worth_at(("fork", order, nodes), {"x": 0, "y": 0, "z": 0, "w": 6}), 6)
        self.assertEqual(worths_of(("fork", order, nodes)), list(range(9 * 9 * 9 * 7)))

    def test_too_many_worths(self):
        order = tuple((name, 0, 8) for name in "abcde")
        with self.assertRaises(TooMany) as caught:
            worths_of(("fork", order, (("leaf", 0),)))
        self.assertEqual(caught.exception.most, 20000)
        self.assertEqual(worth_at(("fork", order, (("leaf", 0),)), {name: 3 for name in "abcde"}), 0)
        order = (("a", 0, 4), ("b", 0, 4), ("c", 0, 4), ("d", 0, 7), ("e", 0, 3), ("f", 0, 4))
        self.assertEqual(worths_of(("fork", order, (("leaf", 0),))), [0] * 20000)

    def test_bad_forks(self):
        for thing in odd_values() + [LEAST[:2], list(LEAST)]:
            with self.assertRaises(BadFork):
                worth_at(thing, None)
            with self.assertRaises(BadFork):
                worths_of(thing)

    def test_bad_points(self):
        for point in [{}, {"x": 0}, {"x": 0, "y": 3}, {"x": 0, "y": -1}, {"x": 0, "y": 0, "z": 0}, {"x": True, "y": 0},
                      {"x": 0, "z": 0}, [0, 0], (0, 0), *odd_values()]:
            with self.assertRaises(BadPoint):
                worth_at(LEAST, point)

    def test_bad_orders_go_first(self):
        for order in [list(XY), (("x", 0, 9),), *odd_values()]:
            if order == () and isinstance(order, tuple):
                continue
            with self.assertRaises(BadOrder):
                fork_from(order, None)

    def test_bad_worths(self):
        for told in [[0] * 8, [0] * 10, [], [0] * 8 + [True], [0] * 8 + ["0"], {0: 1}, "000000000", *odd_values()]:
            with self.assertRaises(BadWorths):
                fork_from(XY, told)


def big_nodes(order):
    """The nodes of a fork with another worth at each point, ascending."""
    nodes = []
    worth = iter(range(10 ** 6))

    def add(level):
        at = len(nodes)
        nodes.append(None)
        if level == len(order):
            nodes[at] = ("leaf", next(worth))
        else:
            nodes[at] = (order[level][0], tuple(add(level + 1) for _ in range(order[level][2] - order[level][1] + 1)))
        return at

    add(0)
    return tuple(nodes)


if __name__ == "__main__":
    unittest.main()
