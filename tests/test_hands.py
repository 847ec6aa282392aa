import unittest

from tests.making import Odd, all_points, odd_values
from tests.playing import GAME, ONES, POINT, SHEET, WISH, Told, changed_things, made_case, refuses_first
from whysheets.errors import BadPrice, IsSure
from whysheets.finding import find
from whysheets.hands import is_plan, is_spoiler, spoiler, sure
from whysheets.judge import judge
from whysheets.nearest import nearest
from whysheets.plain import worth
from whysheets.texts import read_sheet

TOLD = (SHEET, POINT, GAME, ONES, WISH)
PLAN = ("set", 0, ("won", ("bounds",)))
DEAR = ("each", (("paid",), ("set", 1, ("lost", ("point",))), ("set", 1, ("lost", ("point",)))))
NEVER = ("c", (5,), True)
ALWAYS = ("c", (5,), False)


def planned(thing, price=None, **other):
    return is_plan(*[other.get(name, one) for name, one in zip(("sheet", "point", "game", "prices", "wish"), TOLD)], price, thing)


def spoiled(thing, price=None, **other):
    return is_spoiler(*[other.get(name, one) for name, one in zip(("sheet", "point", "game", "prices", "wish"), TOLD)], price, thing)


class HandsTest(unittest.TestCase):
    def test_example(self):
        word, price, plan = sure(SHEET, {"x": 2, "y": 2}, (("x", "mine"), ("y", "other")), {"x": 1, "y": 1}, ("c", (0,), True))
        self.assertEqual((word, price, plan[:2], plan[2][0]), ("sure", 2, ("set", 0), "won"))
        claim = ((("c", (0,), False),), None)
        self.assertIsNone(judge(SHEET, {"x": (0,), "y": (0, 1, 2)}, claim, plan[2][1]))
        self.assertIs(is_spoiler(SHEET, POINT, GAME, ONES, WISH, 2, DEAR), True)
        self.assertIs(is_spoiler(SHEET, POINT, GAME, ONES, WISH, 3, DEAR), False)
        self.assertIs(is_spoiler(SHEET, POINT, GAME, ONES, WISH, None, DEAR), False)
        found = spoiler(sheet=SHEET, point=POINT, game=GAME, prices=ONES, wish=WISH, price=2)
        self.assertEqual((found[0], found[1][0]), ("each", ("paid",)))
        self.assertIs(is_spoiler(sheet=SHEET, point=POINT, game=GAME, prices=ONES, wish=WISH, price=2, thing=found), True)
        for price in (3, 1000000000, None):
            with self.assertRaises(IsSure) as caught:
                spoiler(SHEET, POINT, GAME, ONES, WISH, price)
            self.assertEqual(caught.exception.price, 2)

    def test_plans(self):
        self.assertIs(planned(PLAN), True)
        self.assertIs(is_plan(sheet=SHEET, point=POINT, game=GAME, prices=ONES, wish=WISH, price=2, thing=PLAN), True)
        self.assertIs(planned(PLAN, 1), False)
        self.assertIs(planned(PLAN, 0), False)
        self.assertIs(planned(PLAN, 1, point={"x": 1, "y": 2}), True)
        self.assertIs(planned(PLAN, 0, point={"x": 0, "y": 2}), True)
        self.assertIs(planned(PLAN, 5, prices={"x": 3, "y": 1}), False)
        self.assertIs(planned(PLAN, 6, prices={"x": 3, "y": 1}), True)
        # What "mine" sets although it need not is paid for; what the others set is not.
        more = ("set", 0, ("each", (("won", ("point",)),) * 3))
        self.assertIs(planned(more, 2), True)
        both = (("x", "mine"), ("y", "mine"))
        self.assertIs(planned(("set", 0, ("set", 2, ("won", ("point",)))), 2, game=both), True)
        self.assertIs(planned(("set", 0, ("set", 1, ("won", ("point",)))), 2, game=both), False)
        self.assertIs(planned(("set", 0, ("set", 1, ("won", ("point",)))), 3, game=both), True)
        self.assertIs(planned(("won", ("bounds",)), 0, wish=ALWAYS), True)
        for hand in ("other", "chance"):
            game = (("y", hand), ("x", "mine"))
            thing = ("each", (("set", 0, ("won", ("bounds",))), ("set", 0, ("won", ("bounds",))), ("set", 0, ("won", ("point",)))))
            self.assertIs(planned(thing, 2, game=game), True)
            # At y = 0 nothing needs to be paid, but the price is that of the dearest way.
            thing = ("each", (("won", ("bounds",)),) + thing[1][1:])
            self.assertIs(planned(thing, 2, game=game), True)
            self.assertIs(planned(thing, 1, game=game), False)

    def test_no_plans(self):
        for thing in (("won", ("bounds",)), ("won", ("point",)), ("set", 1, ("won", ("bounds",))), ("set", 3, ("won", ("bounds",))),
                      ("set", True, ("won", ("bounds",))), ("set", False, ("won", ("bounds",))), ("set", None, ("won", ("bounds",))),
                      ("set", 0, ("won", ("far",))), ("set", 0, ("won", "bounds")), ("set", 0, ("won",)), ("set", 0, ("won", ("bounds",), 1)),
                      ("set", 0, ("lost", ("bounds",))), ("set", 0), ("set", 0, ("won", ("bounds",)), 1), ["set", 0, ("won", ("bounds",))],
                      ("set", 0, ["won", ("bounds",)]), ("set", 0, None), ("set", Odd(), ("won", ("bounds",))), (Odd(), 0, ("won", ("bounds",))),
                      ("set", 0, (Odd(), ("bounds",))), ("each", (("won", ("bounds",)),) * 3), ("set", 0, ("set", 0, ("won", ("bounds",)))),
                      ("set", 0, ("each", (("won", ("point",)),) * 2)), ("set", 0, ("each", (("won", ("point",)),) * 4)),
                      ("set", 0, ("each", [("won", ("point",))] * 3)), ("set", 0, ("each", (("each", (("won", ("point",)),)),) * 3)), ("paid",),
                      ("set", 0, ("won", ("split", "y", (((0, 1), ("bounds",)), ((1,), ("bounds",)))))), *odd_values()):
            self.assertIs(planned(thing), False, thing)
            self.assertIs(planned(thing, 10), False, thing)
        self.assertIs(planned(("won", ("bounds",)), wish=NEVER), False)

    def test_spoilers(self):
        lost = ("lost", ("bounds",))
        self.assertIs(spoiled(lost, None, wish=NEVER), True)
        self.assertIs(spoiled(lost, 1, wish=NEVER), True)
        self.assertIs(spoiled(("each", (lost,) * 3), 7, wish=NEVER), True)
        self.assertIs(spoiled(DEAR, 1), True)
        self.assertIs(spoiled(DEAR, 2, prices={"x": 2, "y": 1}), True)
        self.assertIs(spoiled(DEAR, 5, prices={"x": 2, "y": 1}), False)
        # Where nothing has been paid, nothing is enough.
        self.assertIs(spoiled(("paid",), 1), False)
        self.assertIs(spoiled(("each", (("paid",), ("paid",), DEAR[1][2])), 1), True)
        self.assertIs(spoiled(("each", (("paid",), ("paid",), DEAR[1][2])), 2), False)
        self.assertIs(spoiled(("each", (("paid",), ("paid",), ("paid",))), 1), False)
        for thing in (("each", DEAR[1][:2]), ("each", DEAR[1] + DEAR[1][:1]), ("each", list(DEAR[1])), ("set", 2, DEAR[1][2]),
                      ("each", (("paid", 1),) + DEAR[1][1:]), ("each", (["paid"],) + DEAR[1][1:]), ("each", ((Odd(),),) + DEAR[1][1:]),
                      ("each", (("paid",), ("set", 3, ("lost", ("point",))), DEAR[1][2])), ("each", (("paid",), ("set", True, ("lost", ("point",))), DEAR[1][2])),
                      ("each", (("paid",), ("set", 0, ("lost", ("point",))), DEAR[1][2])), ("each", (("paid",), ("each", (("lost", ("point",)),) * 3), DEAR[1][2])),
                      ("each", (("paid",), ("set", 1, ("won", ("point",))), DEAR[1][2])), ("each", (("paid",), ("set", 1, ("lost",)), DEAR[1][2])),
                      ("each", (("paid",), ("set", 1, ("lost", ("far",))), DEAR[1][2])), ("lost", ("bounds",)), PLAN, *odd_values()):
            self.assertIs(spoiled(thing, 2), False, thing)
            self.assertIs(spoiled(thing, None), False, thing)
        self.assertIs(spoiled(("each", (("set", 0, ("lost", ("point",))),) * 3), None, wish=("c", (1, 2), True)), True)

    def test_made_games(self):
        surely = spoilt = changed = 0
        for seed in range(220):
            maker, passed = made_case(seed)
            told = Told(*passed)
            price = told.left()
            found = sure(*passed)
            if price is None:
                spoilt += 1
                self.assertEqual((len(found), found[0]), (2, "spoiled"))
                things = [found[1]]
                self.assertTrue(told.is_spoiler(None, found[1]))
            else:
                surely += 1
                self.assertEqual(found[:2], ("sure", price))
                self.assertEqual(told.plan_price(found[2]), price)
                things = [found[2]]
            for limit in (None, 1, 2, 3, (price or 0) + 1):
                if price is not None and (limit is None or price < limit):
                    with self.assertRaises(IsSure) as caught:
                        spoiler(*passed, limit)
                    self.assertEqual(caught.exception.price, price)
                else:
                    things.append(spoiler(*passed, limit))
                    self.assertTrue(told.is_spoiler(limit, things[-1]))
            for thing in things + [changed_things(maker, one) for one in things * 3]:
                own = told.plan_price(thing)
                for limit in (None, 0, 1, price or 2, (price or 2) - 1 if price != 0 else 5):
                    wanted = own is not None and (limit is None or own <= limit)
                    self.assertIs(is_plan(*passed, limit, thing), wanted, thing)
                    if limit != 0:
                        self.assertIs(is_spoiler(*passed, limit, thing), told.is_spoiler(limit, thing), thing)
                changed += 1
        self.assertGreater(min(surely, spoilt), 40)
        self.assertGreater(changed, 1000)

    def test_heart(self):
        """For each number there is a plan that costs no more or a spoiler for one more, never both."""
        for seed in range(500, 560):
            _, passed = made_case(seed)
            found = sure(*passed)
            for p in range(8):
                try:
                    thing = spoiler(*passed, p + 1)
                    self.assertIs(is_spoiler(*passed, p + 1, thing), True)
                    self.assertFalse(found[0] == "sure" and found[1] <= p)
                except IsSure as error:
                    self.assertIs(is_plan(*passed, p, found[2]), True)
                    self.assertEqual(error.price, found[1])
            try:
                self.assertIs(is_spoiler(*passed, None, spoiler(*passed, None)), True)
                self.assertEqual(found[0], "spoiled")
            except IsSure:
                self.assertIs(is_plan(*passed, None, found[2]), True)

    def test_facts(self):
        as_key = lambda found: float("inf") if found[0] == "spoiled" else found[1]
        for seed in range(600, 680):
            maker, (sheet, point, game, prices, wish) = made_case(seed)
            key = as_key(sure(sheet, point, game, prices, wish))
            for k, (name, hand) in enumerate(game):
                if hand != "mine":
                    other = game[:k] + ((name, "mine"),) + game[k + 1:]
                    self.assertLessEqual(as_key(sure(sheet, point, other, prices, wish)), key)
                if k + 1 < len(game):
                    other = game[:k] + (game[k + 1], game[k]) + game[k + 2:]
                    found = as_key(sure(sheet, point, other, prices, wish))
                    hands = (hand, game[k + 1][1])
                    if hands[0] == hands[1] or "mine" not in hands:
                        self.assertEqual(found, key)
                    elif hands[0] == "mine":
                        self.assertLessEqual(found, key)
            mine = tuple((name, "mine") for name, _ in game)
            found = as_key(sure(sheet, point, mine, prices, wish))
            costs = [sum(prices[name] * abs(one[name] - point[name]) for name in one) for one in all_points(sheet)
                     if (worth(sheet, one, wish[0]) in wish[1]) == wish[2]]
            self.assertEqual(found, min(costs, default=float("inf")))
            if found > 0:
                turn = nearest(sheet, point, [wish], prices)
                self.assertEqual(found, float("inf") if turn is None else turn[0])
        # Who sets the last input of two that must be equal has it in hand.
        sheet = read_sheet("input x from 0 to 1 input y from 0 to 1 cell c = x == y")
        told = ({"x": 0, "y": 0}, {"x": 1, "y": 2}, ("c", (1,), True))
        for hand in ("other", "chance"):
            self.assertEqual(sure(sheet, told[0], (("x", "mine"), ("y", hand)), *told[1:])[0], "spoiled")
            self.assertEqual(sure(sheet, told[0], (("y", hand), ("x", "mine")), *told[1:])[:2], ("sure", 1))
            self.assertEqual(sure(sheet, told[0], (("x", hand), ("y", "mine")), *told[1:])[:2], ("sure", 2))

    def test_many_points(self):
        names = "abcdefg"
        sheet = read_sheet("".join(f"input {name} from 0 to 3 " for name in names) + "cell s = a + b + c + d + e + f + g < 11")
        point = {name: 3 for name in names}
        game = tuple((name, "mine" if k % 2 else "other") for k, name in enumerate(names))
        prices = {name: 1 for name in names}
        wish = ("s", (1,), True)
        found = sure(sheet, point, game, prices, wish)
        self.assertEqual(found[0], "spoiled")
        self.assertIs(is_spoiler(sheet, point, game, prices, wish, None, found[1]), True)
        wish = ("s", (0,), True)
        self.assertEqual(sure(sheet, {name: 0 for name in names}, game, prices, wish)[0], "spoiled")
        game = tuple((name, "other" if name == "d" else "mine") for name in names)
        price, plan = sure(sheet, point, game, prices, ("s", (1,), True))[1:]
        # At the worst d stays 3, and the others must come down from 18 to 7.
        self.assertEqual(price, 11)
        self.assertIs(is_plan(sheet, point, game, prices, ("s", (1,), True), 11, plan), True)

    def test_errors(self):
        for function, count in ((sure, 0), (spoiler, 1), (is_plan, 2), (is_spoiler, 2)):
            refuses_first(self, lambda *told: function(*told, *[True] * count))
        for price in (-1, True, False, "1", (1,), [], {}, Odd(), *[thing for thing in odd_values() if thing not in (0, 1, None)]):
            with self.assertRaises(BadPrice):
                is_plan(*TOLD, price, PLAN)
        for price in (0, -1, True, False, "1", (1,), Odd(), *[thing for thing in odd_values() if thing not in (1, None)]):
            with self.assertRaises(BadPrice):
                is_spoiler(*TOLD, price, DEAR)
            with self.assertRaises(BadPrice):
                spoiler(*TOLD, price)


if __name__ == "__main__":
    unittest.main()
