import unittest
from itertools import chain, combinations, permutations

from tests.making import Odd, odd_values
from tests.playing import SHEET, WISH, Told, bad_wishes, made_case
from tests.test_plain import FAULTY
from whysheets.errors import BadGroup, BadNames, BadSheet, BadWish, Faulty
from whysheets.grips import grips, is_grip, is_lock, locks
from whysheets.texts import read_sheet

NAMES = ("x", "y")


def groups_of(names):
    return list(chain.from_iterable(combinations(sorted(names), k) for k in range(len(names) + 1)))


def has_plan(sheet, names, wish, mine):
    game = tuple((name, "mine" if name in mine else "other") for name in names)
    point = {name: low for _, name, low, _ in sheet[1]}
    return Told(sheet, point, game, {name: 1 for name in names}, wish).left() is not None


def least_ones(groups):
    return tuple(sorted(group for group in groups if not any(set(other) < set(group) for other in groups)))


class GripsTest(unittest.TestCase):
    def test_example(self):
        self.assertEqual(grips(SHEET, NAMES, WISH), (("x",), ("y",)))
        self.assertEqual(locks(sheet=SHEET, names=NAMES, wish=WISH), (("x", "y"),))
        self.assertIs(is_grip(sheet=SHEET, names=NAMES, wish=WISH, group=("y",)), True)
        self.assertIs(is_grip(SHEET, NAMES, WISH, ("x", "y")), True)
        self.assertIs(is_grip(SHEET, NAMES, WISH, ()), False)
        self.assertIs(is_lock(sheet=SHEET, names=NAMES, wish=WISH, group=("x",)), False)
        self.assertIs(is_lock(SHEET, NAMES, WISH, ("x", "y")), True)
        self.assertEqual((grips(SHEET, NAMES, ("c", (5,), False)), locks(SHEET, NAMES, ("c", (5,), False))), (((),), ()))
        self.assertEqual((grips(SHEET, NAMES, ("c", (5,), True)), locks(SHEET, NAMES, ("c", (5,), True))), ((), ((),)))

    def test_the_sequence_counts(self):
        sheet = read_sheet("input x from 0 to 1 input y from 0 to 1 cell c = x == y")
        wish = ("c", (1,), True)
        self.assertEqual((grips(sheet, ("x", "y"), wish), locks(sheet, ("x", "y"), wish)), ((("y",),), (("y",),)))
        self.assertEqual((grips(sheet, ("y", "x"), wish), locks(sheet, ("y", "x"), wish)), ((("x",),), (("x",),)))

    def test_made_sheets(self):
        met = 0
        for seed in range(150):
            maker, (sheet, _, game, _, wish) = made_case(seed, 4, 3)
            names = tuple(name for name, _ in game)
            own = [group for group in groups_of(names) if has_plan(sheet, names, wish, group)]
            shut = [group for group in groups_of(names) if not has_plan(sheet, names, wish, set(names) - set(group))]
            for group in groups_of(names):
                self.assertIs(is_grip(sheet, names, wish, group), group in own)
                self.assertIs(is_lock(sheet, names, wish, group), group in shut)
                # A group is a grip exactly if the others are no lock.
                rest = tuple(name for name in sorted(names) if name not in group)
                self.assertEqual(group in own, rest not in shut)
                # What meets all grips is a lock, what meets all locks a grip.
                self.assertEqual(group in shut, all(set(group) & set(one) for one in own))
                self.assertEqual(group in own, all(set(group) & set(one) for one in shut))
            self.assertEqual(grips(sheet, names, wish), least_ones(own))
            self.assertEqual(locks(sheet, names, wish), least_ones(shut))
            other = (wish[0], wish[1], not wish[2])
            self.assertEqual(grips(sheet, names, other), locks(sheet, names, wish))
            met += len(own) not in (0, len(groups_of(names)))
        self.assertGreater(met, 60)

    def test_errors(self):
        for function, count in ((grips, 0), (locks, 0), (is_grip, 1), (is_lock, 1)):
            more = [None] * count
            for thing in odd_values():
                with self.assertRaises(BadSheet):
                    function(thing, None, None, *more)
                with self.assertRaises(BadNames):
                    function(SHEET, thing, None, *more)
            with self.assertRaises(Faulty):
                function(FAULTY, None, None, *more)
            for names in (("x",), ("x", "y", "y"), ("x", "x"), ("x", "z"), ["x", "y"], ("x", "c"), ("x", None), ("x", Odd()), "xy", ("x", "y", "z")):
                with self.assertRaises(BadNames):
                    function(SHEET, names, None, *more)
            for wish in bad_wishes():
                for names in permutations(NAMES):
                    with self.assertRaises(BadWish):
                        function(SHEET, names, wish, *more)
        for function in (is_grip, is_lock):
            for group in (("y", "x"), ("x", "x"), ["x"], "x", ("z",), ("c",), (None,), (Odd(),), ({},), *[thing for thing in odd_values() if thing != ()]):
                with self.assertRaises(BadGroup):
                    function(SHEET, NAMES, WISH, group)


if __name__ == "__main__":
    unittest.main()
