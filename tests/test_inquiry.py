import unittest

from tests.inquiring import ONES, SHEET, WHOLE, Told, answers, bad_prices, behind, made_case, price_of, questions_over
from tests.making import Odd, odd_values
from tests.test_plain import FAULTY
from whysheets.asking import best_scheme
from whysheets.boxes import whole
from whysheets.errors import (BadAnswer, BadPrices, BadQuestion, BadSheet, BadSides, BadSpot, Faulty, NotKnown,
                              NothingAsked)
from whysheets.inquiry import Inquiry

SIDES = {"x": 1, "y": 2}
PRICES = {"x": 3, "y": 4}


def state_of(inquiry):
    """All that an inquiry tells."""
    asked = questions_over(inquiry.box(), SIDES)
    costs = []
    for question in asked:
        try:
            costs.append(inquiry.cost(question))
        except BadQuestion:
            costs.append(None)
    try:
        worth = (inquiry.worth(),)
    except NotKnown:
        worth = None
    return inquiry.box(), inquiry.told(), inquiry.spent(), inquiry.left(), costs, inquiry.next_question(), inquiry.is_known(), worth


class InquiryTest(unittest.TestCase):
    def test_told(self):
        inquiry = Inquiry(SHEET, "c", PRICES, SIDES)
        self.assertEqual((inquiry.box(), inquiry.told(), inquiry.spent()), (WHOLE, (), 0))
        self.assertEqual(list(inquiry.box()), ["x", "y"])
        self.assertIs(inquiry.is_known(), False)
        self.assertIsNone(inquiry.ask(("atmost", "x", 1), False))
        self.assertIsNone(inquiry.ask(question=("number", "y"), answer=1))
        self.assertEqual(inquiry.told(), ((("atmost", "x", 1), False), (("number", "y"), 1)))
        self.assertEqual(inquiry.box(), {"x": (2,), "y": (1,)})
        self.assertEqual((inquiry.spent(), inquiry.left(), inquiry.next_question(), inquiry.worth()), (5, 0, None, 1))
        self.assertIs(inquiry.is_known(), True)
        self.assertIsNone(inquiry.undo())
        self.assertEqual(inquiry.told(), ((("atmost", "x", 1), False),))
        self.assertEqual(inquiry.box(), {"x": (2,), "y": (0, 1, 2)})
        self.assertEqual((inquiry.left(), inquiry.cost(question=("number", "y")), inquiry.cost(("atmost", "y", 0))), (4, 4, 4))
        inquiry.undo()
        self.assertEqual((inquiry.box(), inquiry.told()), (WHOLE, ()))
        with self.assertRaises(NothingAsked):
            inquiry.undo()
        plain = Inquiry(sheet=SHEET, spot="c", prices=ONES, sides=None)
        self.assertEqual((plain.left(), plain.cost(("number", "x"))), (2, 2))
        plain.ask(("number", "x"), 0)
        self.assertEqual((plain.worth(), plain.left(), plain.spent()), (0, 0, 1))
        # What is known already may be asked on.
        plain.ask(("number", "y"), 2)
        self.assertEqual((plain.worth(), plain.spent(), plain.box()), (0, 2, {"x": (0,), "y": (2,)}))
        opened = Inquiry(SHEET, "o", ONES, ONES)
        opened.ask(("atmost", "x", 1), False)
        self.assertEqual((opened.is_known(), opened.worth()), (True, None))

    def test_made_inquiries(self):
        met = 0
        for seed in range(150):
            maker, sheet, _, spot, prices, sides = made_case(seed)
            told = Told(sheet, whole(sheet), spot, prices, sides)
            inquiry = Inquiry(sheet, spot, prices, sides)
            boxes = [whole(sheet)]
            pairs = []
            first = inquiry.left()
            self.assertEqual(first, best_scheme(sheet, whole(sheet), spot, prices, sides)[0])
            for _ in range(12):
                box = boxes[-1]
                self.assertEqual((inquiry.box(), inquiry.told()), (box, tuple(pairs)))
                spent = sum(price_of(question, prices, sides) for question, _ in pairs)
                self.assertEqual((inquiry.spent(), inquiry.left()), (spent, told.price(box)))
                worths = told.worths_in(tuple(box[name] for name in sorted(box)))
                self.assertEqual(inquiry.is_known(), len(worths) == 1)
                asked = questions_over(box, sides)
                costs = {question: told.cost(box, question) for question in asked}
                for question in asked:
                    self.assertEqual(inquiry.cost(question), costs[question])
                best = inquiry.next_question()
                if len(worths) == 1:
                    self.assertIsNone(best)
                    self.assertEqual(inquiry.worth(), worths.pop())
                else:
                    self.assertEqual(costs[best], min(costs.values()))
                    with self.assertRaises(NotKnown):
                        inquiry.worth()
                if pairs and maker.chance(4) or not asked:
                    if not pairs:
                        break
                    inquiry.undo()
                    boxes.pop()
                    pairs.pop()
                    continue
                question = maker.one_of(asked)
                let = answers(box, question)
                answer = maker.one_of(let)
                # Whatever is asked, there is an answer with which spent and left are no less together.
                self.assertTrue(any(price_of(question, prices, sides) + told.price(one) >= told.price(box) for one in behind(box, question)))
                inquiry.ask(question, answer)
                boxes.append(behind(box, question)[let.index(answer)])
                pairs.append((question, answer))
                met += 1
        self.assertGreater(met, 200)

    def test_the_next_question_is_never_too_dear(self):
        for seed in range(60):
            maker, sheet, _, spot, prices, sides = made_case(seed)
            inquiry = Inquiry(sheet, spot, prices, sides)
            first = inquiry.left()
            while not inquiry.is_known():
                question = inquiry.next_question()
                inquiry.ask(question, maker.one_of(answers(inquiry.box(), question)))
                self.assertLessEqual(inquiry.spent() + inquiry.left(), first)

    def test_what_is_wrong_changes_nothing(self):
        for sides in (None, SIDES):
            inquiry = Inquiry(SHEET, "c", PRICES, sides)
            inquiry.ask(("number", "y"), 2)
            before = state_of(inquiry)
            bad = [("number", "y"), ("number", "z"), ("number", "c"), ("number", "x", 0), ["number", "x"], ("number",), ("atmost", "x", 2),
                   ("atmost", "x", -1), ("atmost", "x", True), ("atmost", "x", False), ("atmost", "x", None), ("atmost", "x"),
                   ("atmost", "x", 0, 0), ("atmost", "y", 0), ("most", "x"), (None, "x"), ("number", ["x"]), ("number", None), *odd_values()]
            for question in bad + ([] if sides else [("atmost", "x", 0)]):
                with self.assertRaises(BadQuestion):
                    inquiry.ask(question, None)
                with self.assertRaises(BadQuestion):
                    inquiry.cost(question)
            for answer in (3, -1, True, False, None, "0", (0,), Odd(), [], *[thing for thing in odd_values() if thing not in (0, 1)]):
                with self.assertRaises(BadAnswer):
                    inquiry.ask(("number", "x"), answer)
            if sides:
                for answer in (0, 1, None, "True", Odd(), *[thing for thing in odd_values() if not isinstance(thing, bool)]):
                    with self.assertRaises(BadAnswer):
                        inquiry.ask(("atmost", "x", 0), answer)
            with self.assertRaises(NotKnown):
                inquiry.worth()
            self.assertEqual(state_of(inquiry), before)
        fresh = Inquiry(SHEET, "c", PRICES, None)
        before = state_of(fresh)
        with self.assertRaises(NothingAsked):
            fresh.undo()
        self.assertEqual(state_of(fresh), before)

    def test_what_is_passed_or_returned_may_be_changed(self):
        prices, sides = dict(PRICES), dict(SIDES)
        inquiry = Inquiry(SHEET, "c", prices, sides)
        before = state_of(inquiry)
        prices["x"] = sides["x"] = 900
        inquiry.box()["x"] = (7,)
        inquiry.box().clear()
        self.assertEqual(state_of(inquiry), before)
        inquiry.ask(("number", "x"), 2)
        self.assertEqual(inquiry.spent(), 3)
        self.assertEqual((prices["y"], sides["y"]), (4, 2))

    def test_errors(self):
        for thing in odd_values():
            with self.assertRaises(BadSheet):
                Inquiry(thing, None, None, None)
            with self.assertRaises(BadSpot):
                Inquiry(SHEET, thing, None, 0)
        with self.assertRaises(Faulty):
            Inquiry(FAULTY, None, None, None)
        for spot in ("x", "r", ("r", 3), "z"):
            with self.assertRaises(BadSpot):
                Inquiry(SHEET, spot, None, 0)
        for thing in bad_prices() + odd_values():
            with self.assertRaises(BadPrices):
                Inquiry(SHEET, "c", thing, 0)
            if thing is not None:
                with self.assertRaises(BadSides):
                    Inquiry(SHEET, "c", ONES, thing)


if __name__ == "__main__":
    unittest.main()
