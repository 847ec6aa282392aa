import unittest

from tests.making import Odd, odd_values
from tests.playing import GAME, ONES, POINT, SHEET, WISH, Told, made_case, refuses_first
from whysheets.errors import BadNumber, MatchOver, NoPlan, NotMine, NothingSet
from whysheets.matches import Match

NEVER = ("c", (5,), True)


def state_of(match):
    """All that a match tells."""
    try:
        best = match.best()
    except (MatchOver, NotMine, NoPlan) as error:
        best = type(error)
    return match.position(), match.owner(), match.paid(), match.left(), best


def amount(number):
    return float("inf") if number is None else number


class MatchTest(unittest.TestCase):
    def test_example(self):
        match = Match(sheet=SHEET, point=POINT, game=GAME, prices=ONES, wish=WISH)
        self.assertEqual(state_of(match), ((), "mine", 0, 2, 0))
        self.assertIsNone(match.put(number=1))
        self.assertEqual(state_of(match), ((1,), "other", 1, None, NotMine))
        self.assertIsNone(match.put(0))
        self.assertEqual(state_of(match), ((1, 0), None, 1, 0, MatchOver))
        with self.assertRaises(MatchOver):
            match.put(0)
        with self.assertRaises(MatchOver):
            match.put("nothing")
        self.assertIsNone(match.undo())
        match.undo()
        self.assertEqual(state_of(match), ((), "mine", 0, 2, 0))
        with self.assertRaises(NothingSet):
            match.undo()
        self.assertEqual(state_of(Match(SHEET, POINT, GAME, ONES, NEVER)), ((), "mine", 0, None, NoPlan))
        drawn = Match(SHEET, POINT, (("y", "chance"), ("x", "mine")), {"x": 3, "y": 1}, WISH)
        self.assertEqual(state_of(drawn), ((), "chance", 0, 6, NotMine))
        drawn.put(0)
        self.assertEqual(state_of(drawn), ((0,), "mine", 0, 0, 2))

    def test_wrong_calls_change_nothing(self):
        match = Match(SHEET, POINT, GAME, ONES, WISH)
        before = state_of(match)
        for _ in range(3):
            for number in (3, -1, True, False, None, "0", (0,), Odd(), [], *[thing for thing in odd_values() if thing not in (0, 1)]):
                if len(match.position()) < 2:
                    with self.assertRaises(BadNumber):
                        match.put(number)
                else:
                    with self.assertRaises(MatchOver):
                        match.put(number)
            if not match.position():
                with self.assertRaises(NothingSet):
                    match.undo()
            self.assertEqual(state_of(match), before)
            if len(match.position()) < 2:
                match.put(2)
                before = state_of(match)

    def test_made_matches(self):
        met = 0
        for seed in range(150):
            maker, passed = made_case(seed)
            told = Told(*passed)
            match = Match(*passed)
            position = ()
            for _ in range(12):
                owner = told.owner(position)
                self.assertEqual((match.position(), match.owner()), (position, owner))
                self.assertEqual((match.paid(), match.left()), (told.paid(position), told.left(position)))
                if owner == "mine" and told.left(position) is not None:
                    best = match.best()
                    self.assertEqual(told.cost(position, best) + told.left(position + (best,)), told.left(position))
                elif owner is not None:
                    with self.assertRaises(NoPlan if owner == "mine" else NotMine):
                        match.best()
                if owner is None or position and maker.chance(4):
                    if not position:
                        break
                    match.undo()
                    position = position[:-1]
                    continue
                here = amount(told.left(position))
                behind = [(told.cost(position, n), amount(told.left(position + (n,)))) for n in told.numbers(position)]
                if owner == "mine":
                    self.assertTrue(all(cost + left >= here for cost, left in behind))
                else:
                    self.assertTrue(any(left >= here for _, left in behind))
                number = maker.one_of(told.numbers(position))
                match.put(number)
                position += (number,)
                met += 1
        self.assertGreater(met, 500)

    def test_best_is_never_too_dear(self):
        for seed in range(200, 280):
            maker, passed = made_case(seed)
            told = Told(*passed)
            match = Match(*passed)
            first = match.left()
            if first is None:
                continue
            while match.owner() is not None:
                match.put(match.best() if match.owner() == "mine" else maker.one_of(told.numbers(match.position())))
                self.assertLessEqual(match.paid() + match.left(), first)
            self.assertEqual(match.left(), 0)

    def test_what_is_passed_may_be_changed(self):
        point, prices = dict(POINT), dict(ONES)
        match = Match(SHEET, point, GAME, prices, WISH)
        point["x"] = 0
        prices["x"] = 900
        self.assertEqual(state_of(match), ((), "mine", 0, 2, 0))

    def test_errors(self):
        refuses_first(self, Match)


if __name__ == "__main__":
    unittest.main()
