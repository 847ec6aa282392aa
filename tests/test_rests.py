import unittest

from tests.knowing import BITS, Alternatives, bound_of, made_fork, numbers_of, rests_of
from tests.making import Maker, odd_values, order_points, worth_table
from tests.test_forks import LEAST, XY
from whysheets.errors import BadFork
from whysheets.forks import fork_from, worth_at
from whysheets.rests import lesson, rests


class RestsTest(unittest.TestCase):
    def test_by_hand(self):
        self.assertEqual(rests(LEAST), (1, 3, 3))
        self.assertEqual(rests(fork=fork_from(XY, [5] * 9)), (1, 1, 1))
        self.assertEqual(rests(fork_from(XY, [x for x in range(3) for _ in range(3)])), (1, 3, 3))
        self.assertEqual(rests(fork_from(XY, [y for _ in range(3) for y in range(3)])), (1, 1, 3))
        self.assertEqual(rests(fork_from((), [None])), (1,))
        self.assertEqual(lesson(fork_from((), [None])), [({}, None)])
        self.assertEqual(lesson(fork_from(XY, [5] * 9)), [({"x": 0, "y": y}, 5) for y in range(3)])
        one = fork_from((("x", 0, 2),), [4, None, 4])
        self.assertEqual((rests(one), lesson(fork=one)), ((1, 2), [({"x": 0}, 4), ({"x": 1}, None), ({"x": 2}, 4)]))

    def test_made_forks(self):
        for seed in range(200):
            _, order, fork, table = made_fork(seed)
            told = rests_of(order, table)
            self.assertEqual(rests(fork), told)
            found = lesson(fork)
            points = [numbers_of(order, point) for point, _ in found]
            self.assertEqual(points, sorted(set(points)))
            self.assertTrue(all(list(point) == sorted(point) for point, _ in found))
            self.assertTrue(all(worth_at(fork, point) == worth for point, worth in found))
            self.assertLessEqual(len(found), bound_of(order, told))

    def test_no_other_fork(self):
        """No other fork that gives the answers is no larger: gone through for all forks of small orders."""
        for order, worths in ((BITS, (0, 1, 7)), ((("x", 0, 2), ("y", 0, 2)), (0, None)), ((("x", 0, 1), ("y", 3, 5)), (0, 1, 2))):
            others = Alternatives(order, worths)
            maker = Maker(7)
            for table, own in maker.shuffled(others.all)[:60] if len(others.all) > 600 else others.all:
                fork = fork_from(order, [table[point] for point in others.points])
                told = {numbers_of(order, point): worth for point, worth in lesson(fork)}
                self.assertEqual(others.fitting(told, own), [table])

    def test_many_points(self):
        order = tuple((name, 0, 3) for name in "abcdefg")
        fork = fork_from(order, [int(sum(numbers) < 11) for numbers in order_points(order)])
        told = rests_of(order, worth_table(fork))
        self.assertEqual(rests(fork), told)
        self.assertLessEqual(len(lesson(fork)), bound_of(order, told))

    def test_errors(self):
        for thing in odd_values() + [("fork", XY, (("leaf", 1.5),)), LEAST[:2]]:
            for function in (rests, lesson):
                with self.assertRaises(BadFork):
                    function(thing)


if __name__ == "__main__":
    unittest.main()
