import unittest

from tests.making import Maker, odd_values
from whysheets.errors import BadSheet, BadSpot
from whysheets.names import reads, start_reads
from whysheets.texts import read_sheet

SHEET = read_sheet("""
input m from 0 to 2
input n from 0 to 2
row r of 3 = r[place -1 else m] + n
cell a = r[2] * n
cell b = r[3]
row q of 2 = most r + q[place 1 else place + q[place 5 else a]]
settle s from 0 to 3 start b + t = s + cases n {1: m, else: if n < 1 then t else a}
settle t from 0 to 3 start r[1] = 4
""")


class ReadsTest(unittest.TestCase):
    def test_example(self):
        self.assertEqual(reads(SHEET, ("r", 1)), ("m", "n"))
        self.assertEqual(reads(SHEET, ("r", 2)), ("n", ("r", 1)))

    def test_told(self):
        for spot, wanted in (
                ("m", ()), ("n", ()), (("r", 3), ("n", ("r", 2))), ("a", ("n", ("r", 2))), ("b", (("r", 3),)),
                (("q", 1), (("q", 2), ("r", 1), ("r", 2), ("r", 3))), (("q", 2), ("a", ("r", 1), ("r", 2), ("r", 3))),
                ("s", ("a", "m", "n", "s", "t")), ("t", ())):
            self.assertEqual(reads(SHEET, spot), wanted)
        self.assertEqual(reads(sheet=SHEET, spot="b"), (("r", 3),))

    def test_sums(self):
        for word in ("sum", "fewest", "most"):
            sheet = read_sheet(f"input n from 0 to 1 row r of 2 = n cell a = {word} r cell b = {word} n cell c = {word} x")
            self.assertEqual(reads(sheet, "a"), (("r", 1), ("r", 2)))
            self.assertEqual(reads(sheet, "b"), ())
            self.assertEqual(reads(sheet, "c"), ())

    def test_starts(self):
        self.assertEqual(start_reads(SHEET, "s"), ("b", "t"))
        self.assertEqual(start_reads(SHEET, "t"), (("r", 1),))
        self.assertEqual(start_reads(sheet=SHEET, name="t"), (("r", 1),))

    def test_sheets_with_faults(self):
        sheet = read_sheet("input n from 0 to 1 row r of 2 = x cell a = r + x + n[1] + r[3] + r[2] + n row b of 1 = a[place 0 else n] + x[place 0 else r[1]] + r[place 2 else n]")
        self.assertEqual(reads(sheet, "a"), ("n", ("r", 2)))
        self.assertEqual(reads(sheet, ("r", 1)), ())
        self.assertEqual(reads(sheet, ("b", 1)), ("n", ("r", 1)))

    def test_the_first_of_several_counts(self):
        sheet = read_sheet("input n from 0 to 1 cell n = a row a of 2 = n cell a = b row a of 3 = b cell b = a + n + sum a + a[3] settle n from 0 to 1 start 0 = 0")
        self.assertEqual(reads(sheet, "n"), ())
        self.assertEqual(reads(sheet, ("a", 2)), ("n",))
        self.assertEqual(reads(sheet, "b"), ("n", ("a", 1), ("a", 2)))
        for function, spot in ((reads, "a"), (reads, ("a", 3)), (start_reads, "n"), (start_reads, "a")):
            with self.assertRaises(BadSpot):
                function(sheet, spot)

    def test_all_that_is_named(self):
        for seed in range(100):
            sheet = Maker(seed).wild_sheet(4)
            firsts = {}
            for thing in sheet[1] + sheet[2]:
                firsts.setdefault(thing[1], thing)
            for name, thing in firsts.items():
                for k in range(1, thing[2] + 1) if thing[0] == "row" else [None]:
                    spot = name if k is None else (name, k)
                    wanted = named(firsts, thing[-1], k) if thing[0] != "input" else set()
                    names = sorted(x for x in wanted if isinstance(x, str))
                    items = sorted(x for x in wanted if isinstance(x, tuple))
                    self.assertEqual(reads(sheet, spot), tuple(names + items))

    def test_bad_spots(self):
        for spot in [("r", 0), ("r", 4), ("r", True), ["r", 1], "r", "x", ("a", 1), ("m", 1), ("r",), ("r", 1, 1),
                     *[thing for thing in odd_values() if thing != "a" or not isinstance(thing, str)]]:
            with self.assertRaises(BadSpot):
                reads(SHEET, spot)
        for name in ["a", "m", "r", ("s",), ("r", 1), "x"] + odd_values():
            with self.assertRaises(BadSpot):
                start_reads(SHEET, name)

    def test_bad_sheet_goes_first(self):
        for thing in odd_values():
            with self.assertRaises(BadSheet):
                reads(thing, None)
            with self.assertRaises(BadSheet):
                start_reads(thing, None)


def named(firsts, expression, k):
    """What an expression names, by the points of the document, one after the other."""
    word = expression[0]
    if word in ("number", "place"):
        return set()
    thing = firsts.get(expression[1]) if isinstance(expression[1], str) else None
    count = thing[2] if thing is not None and thing[0] == "row" else 0
    if word == "name":
        return {expression[1]} if thing is not None and thing[0] != "row" else set()
    if word == "item":
        return {expression[1:]} if expression[2] <= count else set()
    if word in ("sum", "fewest", "most"):
        return {(expression[1], j) for j in range(1, count + 1)}
    if word == "at":
        return {(expression[1], k + expression[2])} if 1 <= k + expression[2] <= count else named(firsts, expression[3], k)
    if word == "cases":
        parts = [expression[1], expression[3]] + [part for _, part in expression[2]]
    else:
        parts = expression[1:]
    return set().union(*[named(firsts, part, k) for part in parts])


if __name__ == "__main__":
    unittest.main()
