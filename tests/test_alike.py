import re
import unittest
from itertools import permutations

from tests.making import Maker, all_points, odd_values
from whysheets.alike import is_like, with_names
from whysheets.errors import BadNames, BadSheet
from whysheets.faults import is_sound
from whysheets.plain import worths
from whysheets.texts import read_sheet, sheet_text
from whysheets.words import KEPT

TEXT = "input n from 0 to 2\nrow r of 3 = r[place -1 else n] + z\ncell a = r[2] + sum r\nsettle s from 0 to 3 start n = s + a\n"
SHEET = read_sheet(TEXT)


def renamed_text(text, names):
    return re.sub("[a-z]+", lambda match: names.get(match.group(), match.group()), text)


def names_of(sheet):
    return sorted({word for word in re.findall("[a-z]+", sheet_text(sheet)) if word not in KEPT})


class WithNamesTest(unittest.TestCase):
    def test_told(self):
        self.assertEqual(with_names(SHEET, {}), SHEET)
        names = {"n": "m", "r": "rr", "z": "zz", "s": "t"}
        self.assertEqual(sheet_text(with_names(SHEET, names)), renamed_text(TEXT, names))
        self.assertEqual(with_names(sheet=SHEET, names={"a": "b"}), with_names(SHEET, {"a": "b"}))

    def test_exchanged(self):
        names = {"n": "a", "a": "n"}
        self.assertEqual(sheet_text(with_names(SHEET, names)), renamed_text(TEXT, names))
        self.assertEqual(with_names(with_names(SHEET, names), names), SHEET)

    def test_names_that_stand_nowhere(self):
        self.assertEqual(with_names(SHEET, {"q": "a", "p": "r"}), SHEET)
        self.assertEqual(with_names(SHEET, {"a": "a"}), SHEET)

    def test_made_sheets(self):
        for seed in range(80):
            maker = Maker(seed)
            sheet = maker.wild_sheet(3)
            own = names_of(sheet)
            names = dict(zip(own, maker.shuffled(own)))
            self.assertEqual(sheet_text(with_names(sheet, names)), renamed_text(sheet_text(sheet), names))
            self.assertTrue(is_like(sheet, with_names(sheet, names)))

    def test_bad_names(self):
        bad = [{"a": "n"}, {"a": "z"}, {"a": "b", "n": "b"}, {"q": "b", "p": "b"}, {"a": "cell"}, {"cell": "b"},
               {"a": 1}, {1: "a"}, {"a": None}, {"a": "B"}, [("a", "b")], (("a", "b"),), "a", None]
        for names in bad + [thing for thing in odd_values() if thing is not None]:
            if isinstance(names, dict) and not names:
                continue
            with self.assertRaises(BadNames, msg=repr(names)):
                with_names(SHEET, names)

    def test_bad_sheet_goes_first(self):
        for thing in odd_values():
            with self.assertRaises(BadSheet):
                with_names(thing, {"a": "n"})

    def test_nothing_is_changed(self):
        names = {"n": "m"}
        with_names(SHEET, names)
        self.assertEqual(names, {"n": "m"})

    def test_worths_go_along(self):
        for seed in range(20):
            maker = Maker(seed)
            sheet = maker.sheet(4, 2)
            own = names_of(sheet)
            names = dict(zip(own, maker.shuffled(own)))
            other = with_names(sheet, names)
            self.assertTrue(is_sound(other))
            there = lambda spot: (names[spot[0]], spot[1]) if isinstance(spot, tuple) else names[spot]
            for point in all_points(sheet):
                told = worths(other, {names[x]: number for x, number in point.items()})
                self.assertEqual(told, {there(spot): worth for spot, worth in worths(sheet, point).items()})


class IsLikeTest(unittest.TestCase):
    def like(self, one, other):
        return is_like(read_sheet(one), read_sheet(other))

    def test_told(self):
        self.assertIs(self.like("input n from 0 to 2 cell a = n", "input a from 0 to 2 cell n = a"), True)
        self.assertIs(self.like("input n from 0 to 2 cell a = n", "input n from 0 to 2 cell n = n"), False)
        self.assertIs(self.like("input n from 0 to 2 cell n = n", "input n from 0 to 2 cell a = n"), False)
        self.assertIs(self.like("input n from 0 to 2 cell a = n", "input n from 0 to 2 cell a = m"), False)
        self.assertIs(self.like("input n from 0 to 2 cell a = x", "input n from 0 to 2 cell a = y"), True)
        self.assertIs(self.like("input n from 0 to 2 cell a = n", "input n from 0 to 3 cell a = n"), False)
        self.assertIs(self.like("input n from 0 to 2 cell a = x + y", "input n from 0 to 2 cell a = x + x"), False)
        self.assertIs(self.like("input n from 0 to 2 cell a = x + x", "input n from 0 to 2 cell a = x + y"), False)
        self.assertIs(self.like("input n from 0 to 2 cell a = sum x", "input n from 0 to 2 cell a = most x"), False)
        self.assertIs(is_like(one=SHEET, other=SHEET), True)

    def test_against_all_renamings(self):
        for seed in range(60):
            maker = Maker(seed)
            one = maker.wild_sheet(1)
            other = with_names(one, dict(zip(names_of(one), maker.shuffled(names_of(one)))))
            if maker.chance(2):
                other = read_sheet(sheet_text(other).replace(" a", " b", 1))
            own, others = names_of(one), names_of(other)
            if len(own) > 6:
                continue
            wanted = len(own) == len(others) and any(
                renamed_text(sheet_text(one), dict(zip(own, way))) == sheet_text(other) for way in permutations(others))
            self.assertIs(is_like(one, other), wanted)
            self.assertIs(is_like(other, one), wanted)

    def test_bad_sheets(self):
        for thing in odd_values():
            with self.assertRaises(BadSheet):
                is_like(thing, SHEET)
            with self.assertRaises(BadSheet):
                is_like(SHEET, thing)


if __name__ == "__main__":
    unittest.main()
