import unittest

from tests.making import Maker, all_points, all_spots, odd_values, order_points, worth_table, named_point
from tests.test_forks import LEAST, XY
from tests.test_making import order_of_inputs
from tests.test_plain import FAULTY
from whysheets.errors import BadFork, BadName, BadOrder, BadSheet, BadSpot, Faulty, NotWritten, TooMany
from whysheets.faults import faults
from whysheets.forks import fork_from
from whysheets.making import fork_of, same_worths
from whysheets.plain import expression_worth
from whysheets.texts import expression_text, read_sheet, sheet_text
from whysheets.trees import is_expression
from whysheets.written import as_expression, as_sheet, normal_text

LEAF = ("fork", XY, (("leaf", 7),))
BARE = ("fork", (), (("leaf", 7),))
OPEN = ("fork", XY, (("leaf", None),))


def made_fork(seed, open_in):
    maker = Maker(seed)
    order = maker.order(maker.number(1, 4))
    return maker, fork_from(order, maker.worths(order, 3, open_in))


def sheet_with(order, cells):
    return ("sheet", tuple(("input",) + triple for triple in order), tuple(cells))


class ExpressionTest(unittest.TestCase):
    def test_told(self):
        self.assertEqual(expression_text(as_expression(LEAST)),
                         "cases x {1: cases y {0: 0, else: 1}, 2: cases y {1: 1, 2: 2, else: 0}, else: 0}")
        self.assertEqual(as_expression(fork=LEAF), ("number", 7))
        self.assertEqual(as_expression(BARE), ("number", 7))
        # Of two children that equally many numbers have the one of the least number comes last.
        fork = fork_from((("x", 0, 3),), [5, 6, 6, 5])
        self.assertEqual(as_expression(fork), ("cases", ("name", "x"), ((1, ("number", 6)), (2, ("number", 6))), ("number", 5)))

    def test_made_forks(self):
        for seed in range(100):
            _, fork = made_fork(seed, 10 ** 6)
            found = as_expression(fork)
            self.assertTrue(is_expression(found))
            sheet = sheet_with(fork[1], [("cell", "a", found)])
            self.assertEqual(faults(sheet), [])
            for numbers, worth in worth_table(fork).items():
                self.assertEqual(expression_worth(sheet, named_point(fork[1], numbers), found), worth)
            self.fewest_pairs(found)

    def fewest_pairs(self, e):
        """No other choice of the last part leaves fewer pairs."""
        if e[0] == "cases":
            parts = [part for _, part in e[2]]
            self.assertNotIn(e[3], parts)
            for part in parts:
                self.fewest_pairs(part)
            self.fewest_pairs(e[3])

    def test_children_of_most_numbers_come_last(self):
        for seed in range(60):
            _, fork = made_fork(seed, 10 ** 6)
            if fork[2][0][0] != "leaf":
                name, children = fork[2][0]
                low = dict((n, a) for n, a, _ in fork[1])[name]
                most = max(children.count(child) for child in children)
                usual = [child for child in children if children.count(child) == most][0]
                pairs = as_expression(fork)[2]
                self.assertEqual([n for n, _ in pairs], [low + k for k, child in enumerate(children) if child != usual])

    def test_errors(self):
        for thing in odd_values():
            with self.assertRaises(BadFork):
                as_expression(thing)
        order = (("x", 0, 4),)
        for worths, wanted in (([0, 999, -999, None, 1000], None), ([0, 1000, -1000, None, 3], 1000), ([-1000, 0, 0, 0, 0], -1000)):
            with self.assertRaises(NotWritten) as caught:
                as_expression(fork_from(order, worths))
            self.assertEqual(caught.exception.worth, wanted)
        as_expression(fork_from(order, [999, -999, 0, 0, 0]))


class SheetTest(unittest.TestCase):
    def test_told(self):
        self.assertEqual(sheet_text(as_sheet(LEAST, "c")), """input x from 0 to 2
input y from 0 to 2
cell a = cases y {1: 1, 2: 2, else: 0}
cell b = cases y {0: 0, else: 1}
cell c = cases x {1: b, 2: a, else: 0}
""")
        self.assertEqual(sheet_text(as_sheet(fork=LEAF, name="c")), "input x from 0 to 2\ninput y from 0 to 2\ncell c = 7\n")
        self.assertEqual(as_sheet(OPEN, "a")[2], (("settle", "b", 0, 1, ("number", 0), ("minus", ("number", 1), ("name", "b"))),
                                                  ("cell", "a", ("name", "b"))))
        # The settling cell takes the first free name.
        order = (("b", 0, 1), ("a", 0, 2))
        fork = fork_from(order, [0, 0, None, None, None, None])
        self.assertEqual(sheet_text(as_sheet(fork, "d")), """input b from 0 to 1
input a from 0 to 2
settle c from 0 to 1 start 0 = 1 - c
cell e = cases a {2: c, else: 0}
cell d = cases b {1: c, else: e}
""")

    def test_free_names(self):
        """No kept word, no name of the order, not the name itself; they go on with two letters."""
        cells = [cell[1] for cell in as_sheet(self.with_questions(40), "ab")[2]]
        self.assertEqual(cells, list("abcdefghijklmnopqrstuvw") + ["a" + one for one in "acdefghijklmnopq"] + ["ab"])
        order = (("f", 0, 1), ("i", 0, 1))
        self.assertEqual([cell[1] for cell in as_sheet(fork_from(order, [0, None, 1, None]), "c")[2]], ["a", "b", "d", "c"])

    def test_made_forks(self):
        for seed in range(100):
            maker, fork = made_fork(seed, 6)
            name = maker.one_of(("a", "b", "zz", "cellar"))
            sheet = as_sheet(fork, name)
            self.assertEqual(faults(sheet), [])
            self.assertEqual(fork_of(sheet, name, fork[1]), fork)
            self.assertEqual(order_of_inputs(sheet), fork[1])
            asking = [node for node in fork[2] if node[0] != "leaf"]
            opened = ("leaf", None) in fork[2]
            self.assertEqual(len(sheet[2]), max(1, len(asking)) + opened)
            names = [cell[1] for cell in sheet[2]]
            self.assertEqual(names[-1], name)
            self.assertEqual(names[:-1], sorted(names[:-1], key=lambda one: (len(one), one)))
            questions = [("name", node[0]) for node in asking]
            if asking:
                self.assertEqual([cell[2][1] for cell in sheet[2][opened:]], questions[::-1])

    def test_errors(self):
        for thing in odd_values():
            with self.assertRaises(BadFork):
                as_sheet(thing, None)
            if not (isinstance(thing, str) and thing in ("a", "sheet")):
                with self.assertRaises(BadName):
                    as_sheet(LEAST, thing)
        with self.assertRaises(BadFork):
            as_sheet(BARE, "a")
        for name in ("x", "y", "leaf", "A", "abcdefghi", ""):
            with self.assertRaises(BadName):
                as_sheet(fork_from(XY, [1000] * 9), name)
        with self.assertRaises(NotWritten) as caught:
            as_sheet(fork_from(XY, [None, 5, 1000, -1000] + [0] * 5), "a")
        self.assertEqual(caught.exception.worth, 1000)

    def test_too_many(self):
        count = 0
        for many in range(30, 60):
            fork = self.with_questions(many)
            for opened in (False, True):
                told = fork if not opened else ("fork", fork[1], tuple(("leaf", None) if n == ("leaf", 0) else n for n in fork[2]))
                if many + opened > 40:
                    with self.assertRaises(TooMany) as caught:
                        as_sheet(told, "a")
                    self.assertEqual(caught.exception.most, 40)
                else:
                    self.assertEqual(len(as_sheet(told, "a")[2]), many + opened)
                count += 1
        self.assertEqual(count, 60)
        # What is not written goes first.
        fork = self.with_questions(41)
        fork = ("fork", fork[1], tuple(("leaf", 5000) if n == ("leaf", 0) else n for n in fork[2]))
        with self.assertRaises(NotWritten):
            as_sheet(fork, "a")

    def with_questions(self, many):
        """A fork with so many questions, 10 to 91."""
        order = (("x", 0, 8), ("y", 0, 8), ("z", 0, 8))
        left = many - 10
        worths = []
        for x in range(9):
            for y in range(9):
                asks = left > 0
                left -= asks
                for z in range(9):
                    worths.append(1 + x * 9 + y if asks and z == 8 else 0 if asks or y else 500 + x)
        fork = fork_from(order, worths)
        assert len([node for node in fork[2] if node[0] != "leaf"]) == many, len(fork[2])
        return fork


class NormalTextTest(unittest.TestCase):
    def test_made_sheets(self):
        same = 0
        for seed in range(40):
            maker = Maker(seed)
            sheet = maker.sheet(5, 2, 3)
            order = tuple(maker.shuffled(order_of_inputs(sheet)))
            texts = {}
            for spot in all_spots(sheet):
                try:
                    texts[spot] = normal_text(sheet, spot, order, "zz")
                except NotWritten as error:
                    self.assertGreater(abs(error.worth), 999)
            for spot, text in texts.items():
                again = read_sheet(text)
                self.assertEqual(normal_text(again, "zz", order, "zz"), text)
                for other in texts:
                    is_same = same_worths(sheet, spot, sheet, other) is None
                    self.assertEqual(is_same, text == texts[other])
                    same += is_same and spot != other
        self.assertGreater(same, 20)

    def test_told(self):
        sheet = read_sheet("input x from 0 to 1 cell a = x + 1 cell b = 2 - (if x == 0 then 1 else 0)")
        wanted = "input x from 0 to 1\ncell n = cases x {1: 2, else: 1}\n"
        self.assertEqual(normal_text(sheet, "a", (("x", 0, 1),), "n"), wanted)
        self.assertEqual(normal_text(sheet=sheet, spot="b", order=(("x", 0, 1),), name="n"), wanted)

    def test_errors(self):
        sheet = read_sheet("input x from 0 to 1 cell a = x * 999 + 5")
        order = (("x", 0, 1),)
        for thing in odd_values():
            with self.assertRaises(BadSheet):
                normal_text(thing, None, None, None)
            with self.assertRaises(BadSpot):
                normal_text(sheet, None, None, None)
            with self.assertRaises(BadOrder):
                normal_text(sheet, "a", thing, None)
        with self.assertRaises(Faulty):
            normal_text(FAULTY, None, None, None)
        with self.assertRaises(BadName):
            normal_text(sheet, "a", order, "x")
        with self.assertRaises(NotWritten) as caught:
            normal_text(sheet, "a", order, "y")
        self.assertEqual(caught.exception.worth, 1004)
        text = "".join(f"input {name} from 0 to 8 " for name in "abcd")
        with self.assertRaises(TooMany) as caught:
            normal_text(read_sheet(text + "cell s = a + b * 9 + c * 81 + d * 729"), "s", tuple((n, 0, 8) for n in "abcd"), None)
        self.assertEqual(caught.exception.most, 4000)


if __name__ == "__main__":
    unittest.main()
