import unittest

from tests.making import Odd, odd_values
from tests.packing import BITS, BOOK, XY, all_bits, bad_orders, bad_spots, bits_of, long, made_book, short, spots_of
from whysheets.bits import filled, pack, unpack
from whysheets.books import is_book
from whysheets.errors import BadBits, BadBook, BadOrder, BadSpots, TooMany
from whysheets.forks import fork_from

SMALL = (((("x", 0, 1),), ["a"], 13), ((("x", 0, 1), ("y", 2, 2)), ["a", "b"], 12), ((("x", 0, 1), ("y", 0, 1)), ["a"], 13), ((), ["a", "b", ("a", 1)], 13),
         ((("y", 3, 5),), ["a", ("b", 2)], 12))


def leaves(*worths):
    """A book over no names, with a leaf on each page."""
    return ("book", (), tuple((("p", k + 1), fork_from((), [worth])) for k, worth in enumerate(worths)))


class BitsTest(unittest.TestCase):
    def test_example(self):
        self.assertEqual(pack(BOOK), BITS)
        self.assertEqual(unpack(XY, ["c"], BITS), BOOK)
        self.assertEqual(pack(book=BOOK), BITS)
        self.assertEqual(unpack(order=XY, spots=("c",), bits=tuple(BITS)), BOOK)

    def test_codes(self):
        """Behind four leaves a link has five choices, the first one a new leaf."""
        first = pack(leaves(1, 2, 3, 4))
        for worth, code in ((None, [0, 0, 1]), (1, [0, 1]), (2, [1, 0]), (3, [1, 1, 0]), (4, [1, 1, 1])):
            self.assertEqual(pack(leaves(1, 2, 3, 4, worth)), first + code)
        # Among one there is no bit at all, and long codes of 0, 1, 2, 3 follow.
        for worth, code in ((None, [1]), (0, [0, 1, 0]), (1, [0, 1, 1]), (-1, [0, 0, 1, 0, 0])):
            self.assertEqual(pack(leaves(worth)), code)

    def test_leaves(self):
        # None, 0, 1, -1, 2, -2, .. are 0, 1, 2, 3, 4, 5, .., less those that are finished.
        for worth, number in ((None, 0), (0, 1), (1, 2), (-1, 3), (2, 4), (-2, 5), (10 ** 12, 2 * 10 ** 12)):
            self.assertEqual(pack(leaves(worth)), long(number))
        self.assertEqual(pack(leaves(0, None, 1)), long(1) + [0] + long(0) + short(0, 3) + long(0))
        self.assertEqual(pack(leaves(5, 5, 5)), long(10) + [1, 1])
        self.assertEqual(pack(leaves(-2, 3, -2)), long(5) + [0] + long(5) + short(1, 3))

    def test_made_books(self):
        long = 0
        for seed in range(200):
            _, book = made_book(seed)
            bits = pack(book)
            self.assertEqual(bits, bits_of(book))
            self.assertEqual(unpack(book[1], spots_of(book), bits), book)
            long += len(bits) > 40
        self.assertGreater(long, 25)

    def test_no_bit_is_wasted(self):
        """Each list of bits is that of one book, begins with the bits of one, or the bits of some begin with it."""
        for order, spots, most in SMALL:
            books = {}
            for bits in all_bits(most):
                try:
                    book = unpack(order, spots, bits)
                except BadBits as error:
                    if error.at == len(bits):
                        whole = filled(order, spots, bits)
                        self.assertEqual(whole[:len(bits)], bits)
                        self.assertGreater(len(whole), len(bits))
                        self.assertEqual(set(whole[len(bits):]), {1})
                        self.assertEqual(pack(unpack(order, spots, whole)), whole)
                    else:
                        self.assertIn(tuple(bits[:error.at]), books.values())
                        with self.assertRaises(BadBits) as caught:
                            filled(order, spots, bits)
                        self.assertEqual(caught.exception.at, error.at)
                else:
                    self.assertIs(is_book(book), True)
                    self.assertNotIn(book, books)
                    books[book] = tuple(bits)
                    self.assertEqual(pack(book), bits)
                    self.assertEqual(filled(order, spots, bits), bits)
            self.assertGreater(len(books), 10)
            # No bits of a book begin with those of another one.
            known = set(books.values())
            self.assertFalse([bits for bits in known for k in range(len(bits)) if bits[:k] in known])

    def test_beginnings(self):
        for seed in range(80):
            maker, book = made_book(seed)
            spots, bits = spots_of(book), pack(book)
            for k in maker.shuffled(range(len(bits)))[:12]:
                with self.assertRaises(BadBits) as caught:
                    unpack(book[1], spots, bits[:k])
                self.assertEqual(caught.exception.at, k)
                whole = filled(order=book[1], spots=spots, bits=tuple(bits[:k]))
                self.assertEqual((whole[:k], set(whole[k:])), (bits[:k], {1}))
                self.assertEqual(pack(unpack(book[1], spots, whole)), whole)
                other = bits[:k] + [1 - bits[k]]
                whole = filled(book[1], spots, other)
                self.assertEqual(whole[:k + 1], other)
                self.assertNotEqual(unpack(book[1], spots, whole), book)

    def test_many_pages(self):
        names = sorted(one + other + third for one in "bcdgh" for other in "aeiouybcd" for third in "abcdefghij")[:400]
        order = (("x", 0, 8), ("y", -1, 1))
        pages = [fork_from(order, [(x * k + y) % 7 for x in range(9) for y in range(3)]) for k in range(400)]
        book = ("book", order, tuple(zip(names, pages)))
        bits = pack(book)
        self.assertEqual(unpack(order, names, bits), book)
        self.assertEqual(filled(order, names, [])[-1], 1)

    def test_too_many_nodes(self):
        """A page of more than 4000 nodes can be packed, but not be returned."""
        order = tuple((name, 0, 8) for name in "abcd")
        nodes = []

        def add(depth, worth):
            at = len(nodes)
            nodes.append(("leaf", worth))
            if depth < 4:
                nodes[at] = ("abcd"[depth], tuple(add(depth + 1, 9 * worth + k) for k in range(9)))
            return at
        add(0, 0)
        book = ("book", order, (("p", ("fork", order, tuple(nodes))), ("q", fork_from(order, [0] * 9 ** 4))))
        bits = pack(book)
        with self.assertRaises(TooMany) as caught:
            unpack(order, ["p", "q"], bits)
        self.assertEqual(caught.exception.most, 4000)
        with self.assertRaises(BadBits):
            unpack(order, ["p", "q"], bits[:-1])
        self.assertEqual(filled(order, ["p", "q"], bits[:-1])[:-1], bits[:-1])

    def test_errors(self):
        for thing in odd_values() + [BOOK[:2], list(BOOK), ("book", XY, ())]:
            with self.assertRaises(BadBook):
                pack(thing)
        for function in (unpack, filled):
            for order in bad_orders() + [thing for thing in odd_values() if not (isinstance(thing, tuple) and not thing)]:
                with self.assertRaises(BadOrder):
                    function(order, None, None)
            for spots in bad_spots() + [thing for thing in odd_values() if thing not in (("a",), ("a", "b", "c"), ("number",))]:
                with self.assertRaises(BadSpots):
                    function(XY, spots, None)
            for thing in odd_values() + [{0: 1}, "01"]:
                if not isinstance(thing, (list, tuple)):
                    with self.assertRaises(BadBits) as caught:
                        function(XY, ["c"], thing)
                    self.assertIsNone(caught.exception.at)
            for wrong in (2, -1, True, False, None, "1", (1,), Odd(), *[thing for thing in odd_values() if thing not in (0, 1)]):
                for at in (0, 1, 7, len(BITS) - 1, len(BITS)):
                    with self.assertRaises(BadBits) as caught:
                        function(XY, ["c"], BITS[:at] + [wrong] + BITS[at:])
                    self.assertEqual(caught.exception.at, at)
            # The first index counts, that of what stands behind the end or of what is no bit.
            for more, at in (([0], len(BITS)), ([None, 2], len(BITS))):
                with self.assertRaises(BadBits) as caught:
                    function(XY, ["c"], BITS + more)
                self.assertEqual(caught.exception.at, at)
        with self.assertRaises(BadBits) as caught:
            unpack(XY, ["c"], [])
        self.assertEqual(caught.exception.at, 0)


if __name__ == "__main__":
    unittest.main()
