import unittest

from tests.making import Maker, odd_values, spot_order
from whysheets.errors import BadSheet
from whysheets.faults import faults, is_sound
from whysheets.names import reads, start_reads
from whysheets.texts import read_sheet
from whysheets.trees import paths, tree_at

HEAD = "input n from 0 to 2 input m from 0 to 2 row r of 3 = n row t of 2 = n < m cell z = n < m "


class Case(unittest.TestCase):
    def has(self, text, *wanted, head=HEAD):
        """The faults of the cells that are told, as from the cell of index 0 on."""
        sheet = read_sheet(head + text)
        shift = len(read_sheet(head + "cell q = 0")[2]) - 1
        moved = [(path[:1] + (path[1] - shift,) + path[2:], word, what) if path and path[0] == 2 else (path, word, what)
                 for path, word, what in faults(sheet)]
        self.assertEqual(moved, list(wanted))
        self.assertIs(is_sound(sheet), not wanted)


class NameFaultsTest(Case):
    def test_again(self):
        self.has("cell n = 1", ((2, 0), "again", "n"))
        self.has("cell a = 1 cell a = 2 row a of 2 = 3", ((2, 1), "again", "a"), ((2, 2), "again", "a"))
        self.assertEqual(faults(read_sheet("input n from 0 to 1 input n from 0 to 2 cell a = n")), [((1, 1), "again", "n")])

    def test_unknown(self):
        self.has("cell a = x", ((2, 0, 2), "unknown", "x"))
        self.has("cell a = x[9]", ((2, 0, 2), "unknown", "x"))
        self.has("row a of 2 = x[place 1 else 0]", ((2, 0, 3), "unknown", "x"))
        for word in ("sum", "fewest", "most"):
            self.has(f"cell a = {word} x", ((2, 0, 2), "unknown", "x"))

    def test_sort(self):
        self.has("cell a = r", ((2, 0, 2), "sort", "r"))
        for x in ("n", "z"):
            self.has(f"cell a = {x}[9]", ((2, 0, 2), "sort", x))
            self.has(f"row a of 2 = {x}[place 1 else 0]", ((2, 0, 3), "sort", x))
            for word in ("sum", "fewest", "most"):
                self.has(f"cell a = {word} {x}", ((2, 0, 2), "sort", x))

    def test_beyond(self):
        self.has("cell a = r[3]")
        self.has("cell a = r[4]", ((2, 0, 2), "beyond", "r"))
        self.has("row a of 2 = r[place 99 else 1]")

    def test_first_one_of_several_counts(self):
        self.has("row a of 2 = 1 cell a = 3 cell b = a", ((2, 1), "again", "a"), ((2, 2, 2), "sort", "a"))
        self.has("cell a = 3 row a of 2 = 1 cell b = a", ((2, 1), "again", "a"))

    def test_places_by_paths(self):
        self.has("settle s from 0 to 1 start x = y cell n = cases x {1: y, 2: n + q, else: w}",
                 ((2, 0, 4), "unknown", "x"), ((2, 0, 5), "unknown", "y"), ((2, 1), "again", "n"),
                 ((2, 1, 2, 1), "unknown", "x"), ((2, 1, 2, 2, 0, 1), "unknown", "y"),
                 ((2, 1, 2, 2, 1, 1, 2), "unknown", "q"), ((2, 1, 2, 3), "unknown", "w"))


class KindFaultsTest(Case):
    def test_example(self):
        head = "input n from 0 to 2 cell a = b cell b = not a "
        self.has("cell c = if b then n else b", ((2, 0, 2, 3), "kind", "number"), head=head)
        self.has("cell c = if b then n else n", ((), "round", ("a", "b")), head=head)

    def test_numbers_are_wanted(self):
        for sign in ("+", "-", "*", "<", "<=", "=="):
            self.has(f"cell a = z {sign} n", ((2, 0, 2, 1), "kind", "number"))
            self.has(f"cell a = n {sign} z", ((2, 0, 2, 2), "kind", "number"))
            self.has(f"cell a = t[1] {sign} (not z)", ((2, 0, 2, 1), "kind", "number"), ((2, 0, 2, 2), "kind", "number"))
        for word in ("least", "greatest"):
            self.has(f"cell a = {word}(z, n)", ((2, 0, 2, 1), "kind", "number"))
            self.has(f"cell a = {word}(n, z)", ((2, 0, 2, 2), "kind", "number"))
        self.has("cell a = cases z {1: z, else: z}", ((2, 0, 2, 1), "kind", "number"))
        self.has("settle s from 0 to 1 start z = n", ((2, 0, 4), "kind", "number"))
        self.has("settle s from 0 to 1 start n = z", ((2, 0, 5), "kind", "number"))

    def test_truths_are_wanted(self):
        for sign in ("and", "or"):
            self.has(f"cell a = z {sign} n", ((2, 0, 2, 2), "kind", "truth"))
            self.has(f"cell a = r[1] {sign} z", ((2, 0, 2, 1), "kind", "truth"))
        self.has("cell a = not n", ((2, 0, 2, 1), "kind", "truth"))
        self.has("cell a = if n then z else z", ((2, 0, 2, 1), "kind", "truth"))

    def test_truths_and_numbers(self):
        for text in ("n < m", "n <= m", "n == m", "not z", "z and z", "z or z", "if z then z else z", "cases n {1: z, else: z}"):
            self.has(f"cell a = not ({text})")
            self.has(f"cell a = n + ({text})", ((2, 0, 2, 2), "kind", "number"))
        for text in ("n", "7", "n + m", "n - m", "n * m", "least(n, m)", "greatest(n, m)", "r[1]", "sum r", "fewest r", "most r",
                     "if z then n else m", "cases n {1: n, else: m}"):
            self.has(f"cell a = n + ({text})")
            self.has(f"cell a = not ({text})", ((2, 0, 2, 1), "kind", "truth"))

    def test_the_kind_of_another_part_is_wanted(self):
        self.has("cell a = if z then z else n", ((2, 0, 2, 3), "kind", "truth"))
        self.has("cell a = if z then n else z", ((2, 0, 2, 3), "kind", "number"))
        self.has("cell a = cases n {1: z, 2: n, 3: z, else: 0}",
                 ((2, 0, 2, 2, 1, 1), "kind", "truth"), ((2, 0, 2, 3), "kind", "truth"))
        self.has("cell a = cases n {1: n, 2: z, else: z}",
                 ((2, 0, 2, 2, 1, 1), "kind", "number"), ((2, 0, 2, 3), "kind", "number"))

    def test_any_kind_is_let(self):
        self.has("cell a = z cell b = n row c of 1 = z row d of 1 = n cell e = if z then z else z cell f = cases n {1: z, else: z}")
        self.has("row c of 2 = c[place -1 else n < m] row d of 2 = d[place -1 else n]")

    def test_kinds_of_names(self):
        self.has("cell a = z cell b = a cell c = not b cell d = t[2] and b")
        self.has("settle s from 0 to 1 start 0 = 1 cell a = not s", ((2, 1, 2, 1), "kind", "truth"))
        self.has("cell a = not x", ((2, 0, 2, 1), "unknown", "x"))
        self.has("cell a = not r[4]", ((2, 0, 2, 1), "beyond", "r"), ((2, 0, 2, 1), "kind", "truth"))
        self.has("cell a = not t[4]", ((2, 0, 2, 1), "beyond", "t"))
        self.has("cell a = n + t[4]", ((2, 0, 2, 2), "beyond", "t"), ((2, 0, 2, 2), "kind", "number"))
        self.has("cell a = not t", ((2, 0, 2, 1), "sort", "t"))
        self.has("cell a = if z then t else z", ((2, 0, 2, 2), "sort", "t"), ((2, 0, 2, 3), "kind", "number"))
        self.has("row a of 1 = not place", ((2, 0, 3, 1), "kind", "truth"))

    def test_kinds_that_go_round(self):
        self.has("cell a = b cell b = a cell c = not a cell d = a + 1",
                 ((2, 2, 2, 1), "kind", "truth"))
        self.has("cell a = a", ((), "round", ("a",)))
        self.has("cell a = if z then a else z", ((2, 0, 2, 3), "kind", "number"))
        self.has("cell a = if z then a else 1", ((), "round", ("a",)))

    def test_other(self):
        for word in ("sum", "fewest", "most"):
            self.has(f"cell a = {word} t", ((2, 0, 2), "other", "t"))
            self.has(f"cell a = not {word} t", ((2, 0, 2, 1), "other", "t"), ((2, 0, 2, 1), "kind", "truth"))
            self.has(f"cell a = not {word} r", ((2, 0, 2, 1), "kind", "truth"))
        self.has("row a of 2 = t[place -1 else n]", ((2, 0, 3), "other", "t"))
        self.has("row a of 2 = r[place -1 else z]", ((2, 0, 3), "other", "r"))
        self.has("row a of 2 = not r[place -1 else z]", ((2, 0, 3, 1), "other", "r"))
        self.has("row a of 2 = not t[place -1 else n]", ((2, 0, 3, 1), "other", "t"), ((2, 0, 3, 1), "kind", "truth"))
        self.has("row a of 2 = n + t[place -1 else z]", ((2, 0, 3, 2), "kind", "number"))
        self.has("row a of 2 = not x[place -1 else n]", ((2, 0, 3, 1), "unknown", "x"))
        self.has("row a of 2 = not z[place -1 else n]", ((2, 0, 3, 1), "sort", "z"))
        self.has("row a of 2 = not (if z then x[place -1 else n] else n)",
                 ((2, 0, 3, 1), "kind", "truth"), ((2, 0, 3, 1, 2), "unknown", "x"))


class RoundsTest(Case):
    def test_let(self):
        self.has("settle a from 0 to 1 start 0 = a")
        self.has("settle a from 0 to 1 start n = b settle b from 0 to 1 start 1 = a + c settle c from 0 to 1 start 0 = a")
        self.has("settle a from 0 to 1 start b = n settle b from 0 to 1 start 0 = b")
        self.has("row a of 3 = a[place -1 else 0] row b of 3 = b[place 1 else 0]")

    def test_not_let(self):
        self.has("cell a = a", ((), "round", ("a",)))
        self.has("settle a from 0 to 1 start a = n", ((), "round", ("a",)))
        self.has("settle a from 0 to 1 start b = n settle b from 0 to 1 start 0 = a", ((), "round", ("a", "b")))
        self.has("settle a from 0 to 1 start b = b settle b from 0 to 1 start 0 = a", ((), "round", ("a", "b")))
        self.has("settle a from 0 to 1 start 0 = b cell b = a", ((), "round", ("a", "b")))
        self.has("row a of 3 = a[place 0 else 0]", ((), "round", (("a", 1),)))
        self.has("row a of 3 = a[place -1 else a[3]]", ((), "round", (("a", 1), ("a", 3), ("a", 2))))
        self.has("row a of 2 = b cell b = a[2]", ((), "round", ("b", ("a", 2))))
        self.has("row a of 1 = sum a", ((), "round", (("a", 1),)))

    def test_a_shortest_one_and_the_least(self):
        self.has("cell a = b cell b = c cell c = a cell d = e cell e = d", ((), "round", ("d", "e")))
        self.has("cell a = c + b cell b = a cell c = a", ((), "round", ("a", "b")))
        self.has("cell a = c cell c = a + b cell b = c", ((), "round", ("a", "c")))
        self.has("settle a from 0 to 1 start 0 = a + b settle b from 0 to 1 start 0 = c settle c from 0 to 1 start b = a",
                 ((), "round", ("b", "c")))

    def test_only_without_other_faults(self):
        self.has("cell a = a + x", ((2, 0, 2, 2), "unknown", "x"))

    def test_made_sheets(self):
        wrong = 0
        for seed in range(800):
            sheet = round_sheet(Maker(seed))
            rounds = all_rounds(sheet)
            wanted = [((), "round", min(rounds, key=lambda one: (len(one), [spot_order(x) for x in one])))] if rounds else []
            self.assertEqual(faults(sheet), wanted)
            wrong += len(wanted)
        self.assertTrue(200 < wrong < 780, wrong)


def round_sheet(maker):
    """A sheet that has no other faults than rounds."""
    names = "abcde"[:maker.number(2, 5)]
    rows = [name for name in names if maker.chance(4)]

    def part():
        others = [("name", name) for name in names if name not in rows] + [("item", name, maker.number(1, 2)) for name in rows]
        return maker.one_of(others + [("number", 1), ("name", "n")])

    cells = []
    for name in names:
        expression = ("plus", part(), part()) if maker.chance(3) else part()
        if name in rows:
            cells.append(("row", name, 2, ("at", name, maker.number(-1, 1), expression) if maker.chance(2) else expression))
        elif maker.chance(3):
            cells.append(("cell", name, expression))
        else:
            cells.append(("settle", name, 0, 2, part() if maker.chance(3) else ("number", 0), expression))
    return ("sheet", (("input", "n", 0, 1),), tuple(cells))


def all_rounds(sheet):
    """All rounds that are not let, each beginning with its least spot."""
    settling = {cell[1] for cell in sheet[2] if cell[0] == "settle"}
    spots = [cell[1] for cell in sheet[2] if cell[0] != "row"]
    spots += [(cell[1], k) for cell in sheet[2] if cell[0] == "row" for k in (1, 2)]
    starts = {spot: start_reads(sheet, spot) if spot in settling else () for spot in spots}
    steps = {spot: set(reads(sheet, spot) + starts[spot]) - {"n"} for spot in spots}
    found = []

    def follow(way):
        for spot in steps[way[-1]]:
            if spot == way[0]:
                behind = way[1:] + way[:1]
                if not all(x in settling and y not in starts[x] for x, y in zip(way, behind)):
                    found.append(tuple(way))
            elif spot not in way and spot_order(spot) > spot_order(way[0]):
                follow(way + [spot])

    for spot in spots:
        follow([spot])
    return found


class AllFaultsTest(Case):
    def test_in_the_order_of_paths(self):
        words = ["again", "unknown", "sort", "beyond", "other", "kind"]
        met = set()
        for seed in range(400):
            sheet = Maker(seed).wild_sheet(3)
            found = faults(sheet)
            places = paths(sheet)
            keys = [(places.index(path), words.index(word)) for path, word, _ in found if path]
            self.assertEqual(keys, sorted(set(keys)))
            for path, word, what in found:
                met.add(word)
                if path and word not in ("kind",):
                    self.assertEqual(tree_at(sheet, path)[1], what)
            self.assertIs(is_sound(sheet), not found)
        self.assertEqual(met, set(words) | {"round"} & met)

    def test_against_each_rule(self):
        for seed in range(600):
            sheet = Maker(seed).wild_sheet(seed % 4 + 1)
            found = [fault for fault in faults(sheet) if fault[1] != "round"]
            self.assertEqual(found, Rules(sheet).faults())

    def test_the_order_of_cells_is_no_matter(self):
        for seed in range(40):
            maker = Maker(seed)
            sheet = maker.sheet()
            self.assertEqual(faults(("sheet", tuple(maker.shuffled(sheet[1])), tuple(maker.shuffled(sheet[2])))), [])

    def test_bad_sheets(self):
        for thing in odd_values() + [("cell", "a", ("number", 1))]:
            with self.assertRaises(BadSheet):
                faults(thing)
            with self.assertRaises(BadSheet):
                is_sound(thing)

    def test_by_name_and_new(self):
        sheet = read_sheet("input n from 0 to 1 cell a = x")
        self.assertEqual(faults(sheet=sheet), [((2, 0, 2), "unknown", "x")])
        self.assertIs(is_sound(sheet=sheet), False)
        self.assertIsNot(faults(sheet), faults(sheet))


class Rules:
    """The faults of names and kinds, told for each path by itself."""

    TRUTHS = ("less", "atmost", "same", "not", "and", "or")

    def __init__(self, sheet):
        self.sheet = sheet
        self.paths = paths(sheet)
        self.firsts = {}
        for thing in sheet[1] + sheet[2]:
            self.firsts.setdefault(thing[1], thing)

    def faults(self):
        return [fault for path in self.paths for fault in self.faults_at(path)]

    def sort(self, name):
        return self.firsts[name][0] if name in self.firsts else None

    def kind(self, e, seen=()):
        if e[0] in self.TRUTHS:
            return "truth"
        if e[0] in ("choose", "cases", "at"):
            return self.kind(e[2] if e[0] == "choose" else e[2][0][1] if e[0] == "cases" else e[3], seen)
        if e[0] in ("name", "item") and (e[0], self.sort(e[1])) in (("name", "cell"), ("item", "row")):
            return "number" if e[1] in seen else self.kind(self.firsts[e[1]][-1], seen + (e[1],))
        return "number"

    def faults_at(self, path):
        tree = tree_at(self.sheet, path)
        if len(path) == 2:
            ahead = (self.sheet[1] + self.sheet[2])[:path[1] + (len(self.sheet[1]) if path[0] == 2 else 0)]
            return [(path, "again", tree[1])] if tree[1] in [thing[1] for thing in ahead] else []
        found = []
        word = None
        if tree[0] in ("name", "item", "at", "sum", "fewest", "most"):
            sort = self.sort(tree[1])
            if sort is None:
                word = "unknown"
            elif (sort == "row") != (tree[0] != "name"):
                word = "sort"
            elif tree[0] == "item" and tree[2] > self.firsts[tree[1]][2]:
                word = "beyond"
            elif tree[0] == "at" and self.kind(self.firsts[tree[1]][3]) != self.kind(tree[3]):
                word = "other"
            elif tree[0] in ("sum", "fewest", "most") and self.kind(self.firsts[tree[1]][3]) == "truth":
                word = "other"
        if word is not None:
            found.append((path, word, tree[1]))
        wanted = self.wanted(path)
        if word not in ("unknown", "sort") and wanted not in (None, self.kind(tree)):
            found.append((path, "kind", wanted))
        return found

    def wanted(self, path):
        above = max([one for one in self.paths if len(one) < len(path) and path[:len(one)] == one], key=len)
        upper, at = tree_at(self.sheet, above), path[len(above):]
        if upper[0] in ("plus", "minus", "times", "least", "greatest", "less", "atmost", "same", "settle"):
            return "number"
        if upper[0] in ("not", "and", "or"):
            return "truth"
        if upper[0] == "choose":
            return {1: "truth", 2: None, 3: self.kind(upper[2])}[at[0]]
        if upper[0] == "cases":
            return "number" if at == (1,) else None if at == (2, 0, 1) else self.kind(upper[2][0][1])
        return None


if __name__ == "__main__":
    unittest.main()
