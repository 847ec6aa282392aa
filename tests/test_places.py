import unittest

from tests.making import Maker, odd_values
from whysheets.errors import BadPath, BadPlace, BadText, NoFit
from whysheets.places import path_at, reach_of
from whysheets.texts import read_cell, read_expression, read_sheet, sheet_text, words_of
from whysheets.trees import paths, tree_at

TEXT = """input n from 0 to 2
  cell a = (n - ((5))) * 2 row r of 3 =
    r[place -1
      else (n)] + least(n, 1)
settle s from 0 to 3 start (0) = cases n {1: s, 2: (s + 1), else: -1}
"""


def wild_text(maker):
    """A text of a made sheet with blanks, line feeds and parentheses that it does not need."""
    words = [word for word, _, _ in words_of(sheet_text(maker.wild_sheet(3)))]
    found = []
    for k, word in enumerate(words):
        is_number_alone = word.lstrip("-").isdigit() and words[k - 1] in ("+", "*", "=", "<", "not", "and") \
            and words[k + 1:k + 2] != ["["]
        found.append("( (\n" + word + ") )" if is_number_alone and maker.chance(2) else word)
        found.append(maker.one_of((" ", "  ", "\n", " \n ")))
    return "".join(found)


def cut(text, reach):
    """The characters of a text from one place to another."""
    lines = text.split("\n")
    begin = sum(len(line) + 1 for line in lines[:reach[0] - 1]) + reach[1] - 1
    end = sum(len(line) + 1 for line in lines[:reach[2] - 1]) + reach[3]
    return text[begin:end]


class ReachTest(unittest.TestCase):
    def test_told_reaches(self):
        pieces = {
            (1, 0): "input n from 0 to 2",
            (2, 0): "cell a = (n - ((5))) * 2",
            (2, 0, 2): "(n - ((5))) * 2",
            (2, 0, 2, 1): "(n - ((5)))",
            (2, 0, 2, 1, 1): "n",
            (2, 0, 2, 1, 2): "((5))",
            (2, 1, 3, 1): "r[place -1\n      else (n)]",
            (2, 1, 3, 1, 3): "(n)",
            (2, 1, 3, 2): "least(n, 1)",
            (2, 1, 3, 2, 2): "1",
            (2, 2, 4): "(0)",
            (2, 2, 5): "cases n {1: s, 2: (s + 1), else: -1}",
            (2, 2, 5, 2, 1, 1): "(s + 1)",
            (2, 2, 5, 3): "-1",
        }
        for path, piece in pieces.items():
            self.assertEqual(cut(TEXT, reach_of(TEXT, path)), piece)
        self.assertEqual(reach_of(TEXT, (1, 0)), (1, 1, 1, 19))
        self.assertEqual(reach_of(TEXT, (2, 1, 3, 1)), (3, 5, 4, 15))
        self.assertEqual(reach_of(text=TEXT, path=(2, 0)), (2, 3, 2, 26))

    def test_what_is_reached_is_read_as_the_tree(self):
        for seed in range(60):
            text = wild_text(Maker(seed))
            sheet = read_sheet(text)
            for path in paths(sheet):
                piece = cut(text, reach_of(text, path))
                tree = tree_at(sheet, path)
                if path[0] == 1:
                    self.assertEqual(read_sheet(piece + " cell a = 1")[1], (tree,))
                else:
                    self.assertEqual(read_cell(piece) if len(path) == 2 else read_expression(piece), tree)

    def test_parentheses_around_belong_to_it(self):
        for seed in range(60):
            text = wild_text(Maker(seed))
            words = words_of(text)
            for path in paths(read_sheet(text)):
                reach = reach_of(text, path)
                ahead = [word for word, line, column in words if (line, column) < reach[:2]][-1:]
                behind = [word for word, line, column in words if (line, column) > reach[2:]][:1]
                if ahead == ["("] and behind == [")"]:
                    called = [word for word, line, column in words if (line, column) < reach[:2]][-2]
                    self.assertIn(called, ("least", "greatest"))

    def test_errors_of_the_text_go_first(self):
        for text, error in (("input", BadText), (5, BadText), ("input n from 2 to 1 cell a = 1", NoFit),
                            ("input n from 0 to 1 cell a = place", BadText)):
            with self.assertRaises(error):
                reach_of(text, None)
            with self.assertRaises(error):
                path_at(text, None, None)

    def test_bad_path(self):
        for path in [(), (1,), (2,), (1, 1), (2, 3), (2, 0, 1), (2, 0, 2, 3), (2, 2, 5, 2), (2, 2, 5, 2, 0), (True, 0),
                     (1, False), [1, 0], (2, -1), (2, 2, 5, 2, 2, 1), (1, 0, 1), *odd_values()]:
            with self.assertRaises(BadPath):
                reach_of(TEXT, path)


class PathAtTest(unittest.TestCase):
    def test_told_places(self):
        for line, column, path in (
                (1, 1, (1, 0)), (1, 19, (1, 0)), (1, 20, ()), (2, 1, ()), (2, 2, ()), (2, 3, (2, 0)), (2, 12, (2, 0, 2, 1)),
                (2, 13, (2, 0, 2, 1, 1)), (2, 14, (2, 0, 2, 1)), (2, 17, (2, 0, 2, 1, 2)), (2, 21, (2, 0, 2, 1, 2)),
                (2, 22, (2, 0, 2, 1)), (2, 23, (2, 0, 2)), (2, 26, (2, 0, 2, 2)), (2, 27, ()), (2, 28, (2, 1)),
                (2, 500, (2, 1)), (3, 1, (2, 1)), (3, 5, (2, 1, 3, 1)), (3, 99, (2, 1, 3, 1)), (4, 1, (2, 1, 3, 1)),
                (5, 70, ()), (6, 1, ()), (99, 1, ())):
            self.assertEqual(path_at(TEXT, line, column), path, (line, column))
        self.assertEqual(path_at(text=TEXT, line=1, column=1), (1, 0))

    def test_innermost_of_all_reaches(self):
        for seed in range(25):
            text = wild_text(Maker(seed))
            reaches = {path: reach_of(text, path) for path in paths(read_sheet(text))}
            for line, told in enumerate(text.split("\n"), 1):
                for column in range(1, len(told) + 3):
                    over = [path for path, reach in reaches.items() if reach[:2] <= (line, column) <= reach[2:]]
                    self.assertEqual(path_at(text, line, column), max(over, key=len, default=()))

    def test_first_character_of_a_reach(self):
        for seed in range(40):
            text = wild_text(Maker(seed))
            for path in paths(read_sheet(text)):
                reach = reach_of(text, path)
                self.assertEqual(path_at(text, reach[0], reach[1])[:len(path)], path)

    def test_bad_place(self):
        for thing in odd_values() + [0, -1]:
            if thing is not True and isinstance(thing, int) and thing == 1:
                continue
            with self.assertRaises(BadPlace):
                path_at(TEXT, thing, 1)
            with self.assertRaises(BadPlace):
                path_at(TEXT, 1, thing)


if __name__ == "__main__":
    unittest.main()
