import unittest

from tests.making import Maker, Odd, all_spots, odd_values
from tests.packing import BOOK, LEAST, XY, bad_orders, made_book
from tests.test_making import order_of_inputs
from tests.test_plain import FAULTY
from whysheets.books import book_of, is_book
from whysheets.errors import BadOrder, BadSheet, Faulty
from whysheets.forks import fork_from
from whysheets.making import fork_of
from whysheets.texts import read_sheet


def book(*pages):
    return ("book", XY, tuple(pages))


class BooksTest(unittest.TestCase):
    def test_is_book(self):
        self.assertIs(is_book(thing=BOOK), True)
        for spots in (["a"], [("r", 1)], ["a", "b", ("a", 1)], ["r", ("r", 1), ("r", 9)], [("a", 9), ("r", 1), ("r", 2)]):
            self.assertIs(is_book(book(*[(spot, LEAST) for spot in spots])), True)
        for spots in ([], ["b", "a"], ["a", "a"], [("a", 1), "a"], [("r", 2), ("r", 1)], [("b", 1), ("a", 2)], [("r", 0)], [("r", 10)], [("r", True)], ["if"], [None], [("r",)],
                      [["r", 1]], [Odd()], [(Odd(), 1)], [("r", Odd())]):
            self.assertIs(is_book(book(*[(spot, LEAST) for spot in spots])), False, spots)
        other = fork_from((("y", 0, 2), ("x", 0, 2)), [0] * 9)
        for thing in (("book", XY, [("c", LEAST)]), ["book", XY, (("c", LEAST),)], ("book", list(XY), (("c", LEAST),)), ("Book", XY, (("c", LEAST),)), ("book", XY), BOOK + (1,),
                      book(["c", LEAST]), book(("c",)), book(("c", LEAST, 1)), book(("c", other)), book(("c", LEAST), ("d", other)), book(("c", None)), book(("c", LEAST[:2])),
                      ("book", XY[:1], (("c", LEAST),)), (Odd(), XY, (("c", LEAST),)), ("book", Odd(), (("c", LEAST),)), ("book", XY, Odd()), book(("c", Odd())), book(Odd()),
                      ("book", (("x", 0, 9),), ()), *odd_values()):
            self.assertIs(is_book(thing), False, thing)
        names = sorted(one + other + third for one in "bcdgh" for other in "aeiouybcd" for third in "abcdefghij")[:401]
        self.assertIs(is_book(book(*[(name, LEAST) for name in names[:400]])), True)
        self.assertIs(is_book(book(*[(name, LEAST) for name in names])), False)
        for seed in range(60):
            self.assertIs(is_book(made_book(seed)[1]), True)

    def test_book_of(self):
        sheet = read_sheet("input y from 0 to 2 input x from 0 to 2 row r of 2 = x * place cell c = least(x, y) settle b from 0 to 1 start 0 = 1 - b")
        found = book_of(sheet=sheet, order=XY)
        self.assertEqual([spot for spot, _ in found[2]], ["b", "c", ("r", 1), ("r", 2)])
        self.assertEqual(found[2][1], ("c", LEAST))
        self.assertEqual(found[2][0][1], ("fork", XY, (("leaf", None),)))
        for seed in range(40):
            maker = Maker(seed)
            sheet = maker.sheet(5, 3, 3)
            order = tuple(maker.shuffled(order_of_inputs(sheet)))
            inputs = [one[1] for one in sheet[1]]
            pages = tuple((spot, fork_of(sheet, spot, order)) for spot in all_spots(sheet) if spot not in inputs)
            self.assertEqual(book_of(sheet, order), ("book", order, pages))
            self.assertIs(is_book(book_of(sheet, order)), True)

    def test_errors(self):
        sheet = read_sheet("input y from 0 to 2 input x from 0 to 2 cell c = x")
        for thing in odd_values():
            with self.assertRaises(BadSheet):
                book_of(thing, None)
            with self.assertRaises(BadOrder):
                book_of(sheet, thing)
        with self.assertRaises(Faulty):
            book_of(FAULTY, None)
        for order in bad_orders() + [XY[:1], XY + (("z", 0, 1),), (("x", 0, 1), ("y", 0, 2)), list(XY)]:
            with self.assertRaises(BadOrder):
                book_of(sheet, order)


if __name__ == "__main__":
    unittest.main()
