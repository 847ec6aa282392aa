import unittest

from tests.making import Odd, odd_values
from tests.packing import BITS, XY, all_bits, bad_orders, bad_spots, made_book, some_point, spots_of
from tests.test_bits import SMALL
from whysheets.bits import filled, pack, unpack
from whysheets.errors import BadBits, BadOrder, BadPoint, BadSpots
from whysheets.foretold import foretold
from whysheets.forks import fork_from, worth_at

POINT = {"x": 1, "y": 2}


def worths_in(order, spots, bits, point):
    return [worth_at(fork, point) for _, fork in unpack(order, spots, bits)[2]]


def shown(test, order, spots, bits, point):
    """What is foretold, of which what is parted is shown by books."""
    found = foretold(order, spots, bits, point)
    test.assertIsInstance(found, tuple)
    test.assertEqual(len(found), len(spots))
    for page, told in enumerate(found):
        if told[0] == "known":
            test.assertEqual(len(told), 2)
        else:
            test.assertEqual((len(told), told[0]), (3, "parted"))
            one, other = [worths_in(order, spots, bits + more, point)[page] for more in told[1:]]
            test.assertNotEqual(one, other)
    return found


class ForetoldTest(unittest.TestCase):
    def test_by_hand(self):
        self.assertEqual(foretold(XY, ["c"], BITS, POINT), (("known", 1),))
        self.assertEqual(foretold(order=XY, spots=("c",), bits=BITS, point=POINT), (("known", 1),))
        # The second child is read with the bit at index 17; ahead of it nothing is known of its last child.
        self.assertEqual(shown(self, XY, ["c"], BITS[:18], POINT), (("known", 1),))
        self.assertEqual(shown(self, XY, ["c"], BITS[:14], {"x": 1, "y": 0}), (("known", 0),))
        self.assertEqual(shown(self, XY, ["c"], BITS[:14], POINT)[0][0], "parted")
        self.assertEqual(shown(self, XY, ["c"], [], POINT)[0][0], "parted")
        # Two choices are left, the leaf 0 and a question that is 0 there as well: known ahead of its last bit.
        order = (("x", 0, 1), ("y", 0, 1))
        book = ("book", order, (("a", fork_from(order, [0, 0, 0, 1])), ("b", fork_from(order, [0] * 4))))
        bits = pack(book)
        found = [shown(self, order, ["a", "b"], bits[:k], {"x": 0, "y": 0})[1] for k in range(len(bits) + 1)]
        self.assertEqual(found[-1], ("known", 0))
        self.assertIn("parted", [told[0] for told in found])

    def test_all_small_books(self):
        """Known is what all books tell that begin with the bits, of some bits more at the most."""
        met = {"known": 0, "parted": 0}
        early = 0
        for order, spots, most in SMALL:
            points = [{name: low for name, low, _ in order}, {name: high for name, _, high in order}]
            books = {}
            for bits in all_bits(most):
                try:
                    unpack(order, spots, bits)
                except BadBits:
                    continue
                books[tuple(bits)] = [worths_in(order, spots, bits, point) for point in points]
            for bits in all_bits(most - 4):
                try:
                    filled(order, spots, bits)
                except BadBits:
                    continue
                for k, point in enumerate(points):
                    found = shown(self, order, spots, bits, point)
                    own = [worths[k] for known, worths in books.items() if known[:len(bits)] == tuple(bits)]
                    for page, told in enumerate(found):
                        met[told[0]] += 1
                        if told[0] == "known":
                            self.assertEqual({worths[page] for worths in own} - {told[1]}, set())
                            self.assertEqual(worths_in(order, spots, filled(order, spots, bits), point)[page], told[1])
                            early += tuple(bits) not in books
        self.assertGreater(min(met.values()), 300)
        self.assertGreater(early, 100)

    def test_made_books(self):
        met = {"known": 0, "parted": 0}
        for seed in range(100):
            maker, book = made_book(seed)
            order, spots, bits = book[1], spots_of(book), pack(book)
            point = some_point(maker, order)
            worths = worths_in(order, spots, bits, point)
            last = [None] * len(spots)
            for k in range(len(bits) + 1):
                found = shown(self, order, spots, bits[:k], point)
                for page, told in enumerate(found):
                    met[told[0]] += 1
                    if told[0] == "known":
                        self.assertEqual(told[1], worths[page])
                    # What is known stays known.
                    self.assertTrue(last[page] is None or told == last[page])
                    last[page] = told if told[0] == "known" else None
            self.assertEqual(found, tuple(("known", worth) for worth in worths))
        self.assertGreater(min(met.values()), 500)

    def test_many_pages(self):
        names = sorted(one + other + third for one in "bcdgh" for other in "aeiouybcd" for third in "abcdefghij")[:400]
        order = tuple((name, 0, 8) for name in "abcd")
        point = {"a": 3, "b": 0, "c": 8, "d": 1}
        for bits in ([], [1], [0, 0, 1, 0, 1, 0, 1, 0, 0, 0], [1] * 40 + [0] * 40):
            found = foretold(order, names, bits, point)
            self.assertEqual(len(found), 400)
            for page in (0, 1, 2, 57, 399):
                if found[page][0] == "parted":
                    one, other = [worths_in(order, names, bits + more, point)[page] for more in found[page][1:]]
                    self.assertNotEqual(one, other)

    def test_errors(self):
        for order in bad_orders() + [thing for thing in odd_values() if not (isinstance(thing, tuple) and not thing)]:
            with self.assertRaises(BadOrder):
                foretold(order, None, None, None)
        for spots in bad_spots():
            with self.assertRaises(BadSpots):
                foretold(XY, spots, None, None)
        for thing in odd_values():
            if not isinstance(thing, (list, tuple)):
                with self.assertRaises(BadBits) as caught:
                    foretold(XY, ["c"], thing, None)
                self.assertIsNone(caught.exception.at)
        for bits, at in ((BITS + [0], len(BITS)), (BITS + [None], len(BITS)), ([1, 0, 2], 2), ([True], 0), ([Odd()], 0), ([1, None], 1)):
            with self.assertRaises(BadBits) as caught:
                foretold(XY, ["c"], bits, None)
            self.assertEqual(caught.exception.at, at)
        for point in ({"x": 0}, {"x": 0, "y": 3}, {"x": 0, "y": True}, {**POINT, "z": 0}, *odd_values()):
            with self.assertRaises(BadPoint):
                foretold(XY, ["c"], BITS, point)


if __name__ == "__main__":
    unittest.main()
