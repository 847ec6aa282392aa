import unittest

from tests.making import Maker, Odd, odd_values
from whysheets.errors import BadPath, BadSheet, BadTree
from whysheets.trees import changed_at, is_cell, is_expression, is_sheet, paths, tree_at

N = ("number", 0)
X = ("name", "x")

GOOD = [
    ("number", -999), ("number", 999), X, ("item", "x", 1), ("item", "x", 9), ("place",), ("at", "x", -999, N),
    ("at", "x", 0, ("place",)), ("plus", N, X), ("minus", N, X), ("times", N, X), ("least", N, X),
    ("greatest", N, X), ("sum", "x"), ("fewest", "x"), ("most", "x"), ("less", N, X), ("atmost", N, X),
    ("same", N, X), ("not", N), ("and", N, X), ("or", N, X), ("choose", N, X, N), ("cases", X, ((0, N),), X),
    ("cases", X, ((-999, N), (-1, X), (999, N)), X), ("not", ("not", ("not", ("place",)))),
]
BAD = [
    ("number", 1000), ("number", -1000), ("number", True), ("number", "1"), ("number",), ("number", 1, 2),
    ["number", 1], ("name", "X"), ("name", "if"), ("name", "abcdefghi"), ("name", 1), ("name",), ("item", "x", 0),
    ("item", "x", 10), ("item", "x", True), ("item", "x"), ("place", 1), ("place", "x"), ("at", "x", 1000, N),
    ("at", "x", 0), ("at", "x", 0, 0), ("at", "x", False, N), ("plus", N), ("plus", N, N, N), ("plus", N, 0),
    ("plus", [N], N), ("plus", N, ["number", 0]), ("sum", 1), ("sum", X), ("not", N, N), ("not",),
    ("choose", N, N), ("cases", X, (), N), ("cases", X, [(0, N)], N), ("cases", X, ([0, N],), N),
    ("cases", X, ((0, N), (0, N)), N), ("cases", X, ((1, N), (0, N)), N), ("cases", X, ((0, N, N),), N),
    ("cases", X, ((0, 0),), N), ("cases", X, ((1000, N),), N), ("cases", X, ((True, N),), N),
    ("cases", X, ((0, N), None), N), ("Number", 1), ("cell", "x", N), ("input", "x", 0, 1), ("row", "x", 1, N),
    ("times", N, ("times", N, ("fork",))), ("number", Odd()), (Odd(), 1), (Odd(),), ([], 1), ({}, N, N),
]


def sheet_with(*cells):
    return ("sheet", (("input", "n", 0, 1),), cells)


class FormTest(unittest.TestCase):
    def test_expressions(self):
        for thing in GOOD:
            self.assertIs(is_expression(thing), True, thing)
            self.assertIs(is_expression(("choose", thing, thing, ("cases", thing, ((3, thing),), thing))), True)

    def test_no_expressions(self):
        for thing in BAD + odd_values():
            self.assertIs(is_expression(thing), False, repr(thing))
            self.assertIs(is_expression(("plus", ("number", 1), thing)), False)
            self.assertIs(is_expression(("cases", N, ((1, thing),), N)), False)

    def test_cells(self):
        for thing in GOOD:
            told = repr(thing)
            in_row_alone = "place" in told or "'at'" in told
            self.assertIs(is_cell(("cell", "a", thing)), not in_row_alone, told)
            self.assertIs(is_cell(("row", "a", 9, thing)), True)
            self.assertIs(is_cell(("settle", "a", 0, 0, thing, N)), not in_row_alone)
            self.assertIs(is_cell(("settle", "a", -999, 999, N, thing)), not in_row_alone)
        for thing in BAD + odd_values():
            self.assertIs(is_cell(("cell", "a", thing)), False)
            self.assertIs(is_cell(("row", "a", 9, thing)), False)
            self.assertIs(is_cell(("settle", "a", 0, 1, N, thing)), False)
            self.assertIs(is_cell(("settle", "a", 0, 1, thing, N)), False)
            self.assertIs(is_cell(thing), repr(thing) in (repr(("cell", "x", N)), repr(("row", "x", 1, N))))

    def test_no_cells(self):
        for thing in (("cell", "if", N), ("cell", "a"), ("cell", "a", N, N), ["cell", "a", N], ("row", "a", 0, N),
                      ("row", "a", 10, N), ("row", "a", True, N), ("row", "a", N), ("settle", "a", 1, 0, N, N),
                      ("settle", "a", 0, 1000, N, N), ("settle", "a", 0, 1, N), ("input", "a", 0, 1)):
            self.assertIs(is_cell(thing), False, thing)

    def test_sheets(self):
        cell = ("cell", "a", N)
        one = ("input", "n", 0, 1)
        self.assertIs(is_sheet(("sheet", (one,), (cell,))), True)
        self.assertIs(is_sheet(("sheet", (one, one), (cell, cell))), True)
        self.assertIs(is_sheet(("sheet", (("input", "n", -999, 999),) * 9, (cell,) * 50)), True)
        self.assertIs(is_sheet(("sheet", (("input", "n", 4, 4),), (cell,))), True)
        for thing in (("sheet", (), (cell,)), ("sheet", (one,), ()), ("sheet", [one], (cell,)),
                      ("sheet", (one,), [cell]), ["sheet", (one,), (cell,)], ("sheet", (cell,), (one,)),
                      ("sheet", (one,), (one,)), ("sheet", (one,), (cell,), ()), ("fork", (one,), (cell,)),
                      ("sheet", (("input", "n", 1, 0),), (cell,)), ("sheet", (("input", "n", 0, 1000),), (cell,)),
                      ("sheet", (("input", "n", False, 1),), (cell,)), ("sheet", (["input", "n", 0, 1],), (cell,)),
                      ("sheet", (("input", "place", 0, 1),), (cell,)), (Odd(), (one,), (cell,))):
            self.assertIs(is_sheet(thing), False)
        for thing in odd_values():
            self.assertIs(is_sheet(thing), False)
            self.assertIs(is_sheet(("sheet", thing, (cell,))), False)
            self.assertIs(is_sheet(("sheet", (one,), thing)), False)
            self.assertIs(is_sheet(("sheet", (one, thing), (cell,))), False)
            self.assertIs(is_sheet(("sheet", (one,), (cell, thing))), False)

    def test_made_sheets(self):
        for seed in range(200):
            self.assertIs(is_sheet(Maker(seed).wild_sheet(4)), True)

    def test_by_name(self):
        self.assertIs(is_expression(thing=N), True)
        self.assertIs(is_cell(thing=N), False)
        self.assertIs(is_sheet(thing=N), False)


class PathsTest(unittest.TestCase):
    SHEET = ("sheet", (("input", "m", 0, 1), ("input", "n", 0, 2)), (
        ("cell", "a", ("choose", X, N, ("not", X))),
        ("row", "r", 3, ("at", "r", -1, ("plus", N, X))),
        ("settle", "s", 0, 3, ("number", 1), ("cases", X, ((1, N), (2, ("not", N))), X)),
    ))

    def test_told_paths(self):
        self.assertEqual(paths(self.SHEET), [
            (1, 0), (1, 1),
            (2, 0), (2, 0, 2), (2, 0, 2, 1), (2, 0, 2, 2), (2, 0, 2, 3), (2, 0, 2, 3, 1),
            (2, 1), (2, 1, 3), (2, 1, 3, 3), (2, 1, 3, 3, 1), (2, 1, 3, 3, 2),
            (2, 2), (2, 2, 4), (2, 2, 5), (2, 2, 5, 1), (2, 2, 5, 2, 0, 1), (2, 2, 5, 2, 1, 1),
            (2, 2, 5, 2, 1, 1, 1), (2, 2, 5, 3),
        ])

    def test_tree_at(self):
        self.assertEqual(tree_at(self.SHEET, (1, 1)), ("input", "n", 0, 2))
        self.assertEqual(tree_at(self.SHEET, (2, 0)), self.SHEET[2][0])
        self.assertEqual(tree_at(self.SHEET, (2, 2, 4)), ("number", 1))
        self.assertEqual(tree_at(self.SHEET, (2, 2, 5, 2, 1, 1)), ("not", N))
        self.assertEqual(tree_at(self.SHEET, (2, 2, 5, 3)), X)

    def test_each_path_leads_to_a_thing(self):
        for seed in range(60):
            sheet = Maker(seed).wild_sheet(4)
            found = paths(sheet)
            self.assertEqual(len(set(found)), len(found))
            for path in found:
                tree = tree_at(sheet, path)
                if path[0] == 1 or len(path) == 2:
                    self.assertEqual(tree, sheet[path[0]][path[1]])
                else:
                    self.assertTrue(is_expression(tree))
                self.assertEqual(changed_at(sheet, path, tree), sheet)
            self.assertEqual(count_trees(sheet), len(found))

    def test_changed_at(self):
        changed = changed_at(self.SHEET, (2, 2, 5, 2, 1, 1), ("sum", "r"))
        self.assertEqual(tree_at(changed, (2, 2, 5, 2, 1, 1)), ("sum", "r"))
        self.assertEqual(changed_at(changed, (2, 2, 5, 2, 1, 1), ("not", N)), self.SHEET)
        self.assertEqual(changed_at(self.SHEET, (1, 0), ("input", "q", 5, 9))[1][0], ("input", "q", 5, 9))
        self.assertEqual(changed_at(self.SHEET, (2, 0), ("cell", "a", N))[2][0], ("cell", "a", N))
        self.assertEqual(tree_at(changed_at(self.SHEET, (2, 1, 3), ("place",)), (2, 1, 3)), ("place",))
        self.assertEqual(changed_at(sheet=self.SHEET, path=(1, 0), tree=("input", "m", 0, 1)), self.SHEET)

    def test_bad_sheet_goes_first(self):
        for thing in odd_values() + [N, ("cell", "a", N)]:
            with self.assertRaises(BadSheet):
                paths(thing)
            with self.assertRaises(BadSheet):
                tree_at(thing, None)
            with self.assertRaises(BadSheet):
                changed_at(thing, None, None)

    def test_bad_path(self):
        for path in [(), (0,), (1,), (2,), (1, 2), (1, -1), (2, 0, 0), (2, 0, 1), (2, 0, 3), (2, 0, 2, 4), (True, 0),
                     (1, False), [1, 0], (1, 0, 2), (2, 2, 5, 2), (2, 2, 5, 2, 0), (2, 2, 5, 2, 0, 0), (2, -1),
                     (1, "0"), ("1", 0), (1, None), (2, 1, 3, 1), (Odd(), Odd()), ([], []), *odd_values()]:
            with self.assertRaises(BadPath):
                tree_at(self.SHEET, path)
            with self.assertRaises(BadPath):
                changed_at(self.SHEET, path, Odd())

    def test_bad_tree(self):
        for path in paths(self.SHEET):
            for tree in odd_values() + BAD:
                if len(path) == 2 and repr(tree) in map(repr, (("cell", "x", N), ("input", "x", 0, 1), ("row", "x", 1, N))):
                    continue
                with self.assertRaises(BadTree):
                    changed_at(self.SHEET, path, tree)
        for path, tree in (((1, 0), ("cell", "a", N)), ((2, 0), ("input", "a", 0, 1)), ((2, 0, 2), ("place",)),
                           ((2, 0, 2, 1), ("at", "r", 1, N)), ((2, 2, 4), ("place",)), ((2, 2, 5, 3), ("place",)),
                           ((1, 0), ("input", "m", 2, 1)), ((2, 1), X)):
            with self.assertRaises(BadTree):
                changed_at(self.SHEET, path, tree)


def count_trees(thing):
    """How many inputs, cells and expressions lie in a sheet, told by their words alone."""
    if not isinstance(thing, tuple):
        return 0
    own = 1 if thing and isinstance(thing[0], str) and thing[0] != "sheet" else 0
    return own + sum(count_trees(part) for part in thing)


if __name__ == "__main__":
    unittest.main()
