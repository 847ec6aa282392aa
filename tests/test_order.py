import unittest

from tests.making import Maker, all_points, all_spots, odd_values, spot_order
from tests.reckoning import rings_of
from whysheets.errors import BadNames, BadSheet, BadSpot, Faulty
from whysheets.faults import is_sound
from whysheets.names import reads, start_reads
from whysheets.order import kept, knot_of, knots, order_of, sources, users
from whysheets.plain import worth, worths
from whysheets.texts import read_sheet, sheet_text

EXAMPLE = read_sheet("input m from 0 to 2 input n from 0 to 2 row r of 3 = r[place -1 else m] + n cell a = r[2] * n cell b = r[3]")
SHEET = read_sheet("""
input n from 0 to 2
input m from 0 to 1
cell z = s + t
settle t from 0 to 3 start w = s
settle s from 0 to 3 start m = t + n
settle w from 0 to 3 start n = m
settle b from 0 to 3 start 0 = b
row a of 2 = b
cell c = 4
""")


def knot_order(knot):
    """Names, and rings by their least cell, ahead of pairs."""
    return spot_order(knot[0]) if is_ring(knot) else spot_order(knot)


def is_ring(knot):
    return isinstance(knot, tuple) and isinstance(knot[-1], str)


def knots_read(sheet):
    """The dict from each knot to the set of the other knots that it reads."""
    homes = {spot: knot_of(sheet, spot) for spot in all_spots(sheet)}
    found = {}
    for knot in homes.values():
        spots = set()
        for spot in knot if is_ring(knot) else (knot,):
            spots |= set(reads(sheet, spot))
            if is_ring(knot):
                spots |= set(start_reads(sheet, spot))
        found[knot] = {homes[spot] for spot in spots} - {knot}
    return found


class KnotsTest(unittest.TestCase):
    def test_example(self):
        self.assertEqual(order_of(EXAMPLE), (("r", 1), ("r", 2), "a", ("r", 3), "b"))
        self.assertEqual(knots(EXAMPLE), ("a", "b", "m", "n", ("r", 1), ("r", 2), ("r", 3)))

    def test_told(self):
        self.assertEqual(knots(SHEET), (("b",), "c", "m", "n", ("s", "t"), "w", "z", ("a", 1), ("a", 2)))
        self.assertEqual(order_of(SHEET), (("b",), "c", "w", ("s", "t"), "z", ("a", 1), ("a", 2)))
        for spot, knot in (("s", ("s", "t")), ("t", ("s", "t")), ("b", ("b",)), ("w", "w"), ("n", "n"), (("a", 2), ("a", 2))):
            self.assertEqual(knot_of(SHEET, spot), knot)
        self.assertEqual(knots(sheet=SHEET), knots(SHEET))
        self.assertEqual(knot_of(sheet=SHEET, spot="s"), ("s", "t"))
        self.assertEqual(order_of(sheet=SHEET), order_of(SHEET))

    def test_start_in_no_ring_does_not_count(self):
        sheet = read_sheet("input n from 0 to 1 settle a from 0 to 1 start z = n cell z = n")
        self.assertEqual(order_of(sheet), ("a", "z"))
        sheet = read_sheet("input n from 0 to 1 settle a from 0 to 1 start z = a cell z = n")
        self.assertEqual(order_of(sheet), ("z", ("a",)))

    def test_made_sheets(self):
        for seed in range(80):
            sheet = Maker(seed).sheet()
            all_knots = knots(sheet)
            rings = rings_of(sheet)
            alone = [spot for spot in all_spots(sheet) if not any(spot in ring for ring in rings)]
            self.assertEqual(list(all_knots), sorted(rings + alone, key=knot_order))
            for spot in all_spots(sheet):
                self.assertIn(knot_of(sheet, spot), all_knots)
                self.assertTrue(spot == knot_of(sheet, spot) or spot in knot_of(sheet, spot))
            steps = knots_read(sheet)
            inputs = [one[1] for one in sheet[1]]
            done = set(inputs)
            found = []
            while len(done) < len(all_knots):
                found.append(min([knot for knot in all_knots if knot not in done and steps[knot] <= done], key=knot_order))
                done.add(found[-1])
            self.assertEqual(order_of(sheet), tuple(found))

    def test_bad_spots(self):
        for function in (knot_of, sources, users):
            for spot in [("a", 0), ("a", 3), ("a", True), "a", "x", ["a", 1], ("s", "t"), ("b",), *odd_values()]:
                with self.assertRaises(BadSpot):
                    function(SHEET, spot)

    def test_sheets_go_first(self):
        faulty = read_sheet("input n from 0 to 1 cell a = x")
        for function in (lambda s: knots(s), lambda s: order_of(s), lambda s: knot_of(s, None), lambda s: sources(s, None),
                         lambda s: users(s, None), lambda s: kept(s, None)):
            for thing in odd_values():
                with self.assertRaises(BadSheet):
                    function(thing)
            with self.assertRaises(Faulty) as caught:
                function(faulty)
            self.assertEqual(caught.exception.fault, ((2, 0, 2), "unknown", "x"))


class SourcesTest(unittest.TestCase):
    def test_told(self):
        for spot, wanted in (("n", ("n",)), ("w", ("m",)), ("s", ("m", "n")), ("z", ("m", "n")), ("b", ()), (("a", 1), ()), ("c", ())):
            self.assertEqual(sources(SHEET, spot), wanted)
        self.assertEqual(sources(EXAMPLE, "b"), ("m", "n"))
        self.assertEqual(sources(sheet=EXAMPLE, spot="m"), ("m",))

    def test_users(self):
        for spot, wanted in (("n", ("s", "t", "z")), ("m", ("s", "t", "w", "z")), ("s", ("z",)), ("t", ("z",)), ("z", ()),
                             ("b", (("a", 1), ("a", 2))), ("c", ())):
            self.assertEqual(users(SHEET, spot), wanted)
        self.assertEqual(users(EXAMPLE, ("r", 2)), ("a", "b", ("r", 3)))
        self.assertEqual(users(sheet=EXAMPLE, spot="a"), ())

    def test_ways(self):
        for seed in range(50):
            sheet = Maker(seed).sheet()
            back = {knot: {knot} for knot in knots(sheet)}
            steps = knots_read(sheet)
            for knot in order_of(sheet):
                for one in steps[knot]:
                    back[knot] |= back[one]
            inputs = [one[1] for one in sheet[1]]
            for spot in all_spots(sheet):
                knot = knot_of(sheet, spot)
                self.assertEqual(sources(sheet, spot), tuple(sorted(x for x in back[knot] if x in inputs)))
                wanted = [x for x in all_spots(sheet) if knot_of(sheet, x) != knot and knot in back[knot_of(sheet, x)]]
                self.assertEqual(users(sheet, spot), tuple(wanted))

    def test_same_numbers_of_sources_give_the_same_worth(self):
        for seed in range(60):
            sheet = Maker(seed).sheet()
            told = {spot: sources(sheet, spot) for spot in all_spots(sheet)}
            known = {}
            for point in all_points(sheet):
                for spot, found in worths(sheet, point).items():
                    key = (spot, tuple(point[name] for name in told[spot]))
                    self.assertEqual(known.setdefault(key, found), found)


class KeptTest(unittest.TestCase):
    def test_told(self):
        for names, wanted in ((["c"], "c"), (["z"], "z t s w"), (["w"], "w"), (("a",), "b a"), (["t"], "t s w"), (["c", "b"], "b c")):
            self.assertEqual([cell[1] for cell in kept(SHEET, names)[2]], wanted.split())
            self.assertEqual(kept(SHEET, names)[1], SHEET[1])
        self.assertEqual(kept(sheet=SHEET, names=["z", "a", "c"]), SHEET)

    def test_names_that_are_never_looked_at(self):
        sheet = read_sheet("input n from 0 to 1 row r of 2 = n row q of 1 = r[place 1 else 0] + r[place 5 else 1] settle s from 0 to 1 start c = 0 cell c = n")
        self.assertEqual([cell[1] for cell in kept(sheet, ["s"])[2]], ["s", "c"])
        self.assertEqual([cell[1] for cell in kept(sheet, ["q"])[2]], ["r", "q"])

    def test_made_sheets(self):
        for seed in range(60):
            maker = Maker(seed)
            sheet = maker.sheet()
            names = [cell[1] for cell in sheet[2]]
            told = maker.shuffled(names)[:maker.number(1, 2)]
            made = kept(sheet, told)
            self.assertTrue(is_sound(made))
            self.assertEqual([cell for cell in sheet[2] if cell in made[2]], list(made[2]))
            for point in all_points(sheet):
                found = worths(sheet, point)
                self.assertEqual(worths(made, point), {spot: found[spot] for spot in all_spots(made)})
            for cell in made[2]:
                rest = tuple(one for one in made[2] if one != cell)
                if cell[1] not in told:
                    self.assertFalse(is_sound(("sheet", made[1], rest)))

    def test_bad_names(self):
        for names in [[], (), ["n"], ["a", "a"], ["x"], [("a", 1)], "a", {"a": 1}, ["a", None], [["a"]], {"a"}, None,
                      *odd_values()]:
            if names == ("a",) and isinstance(names, tuple) or isinstance(names, tuple) and names[:3] == ("a", "b", "c"):
                continue
            with self.assertRaises(BadNames, msg=repr(names)):
                kept(SHEET, names)


if __name__ == "__main__":
    unittest.main()
