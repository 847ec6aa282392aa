import unittest

from tests.knowing import BITS, Alternatives, bound_of, is_no_larger, made_fork, more_of, numbers_of, rests_of
from tests.making import Maker, Odd, all_points, named_point, odd_values, order_points, worth_table
from tests.test_forks import LEAST, XY
from tests.test_making import order_of_inputs
from tests.test_plain import FAULTY
from whysheets.errors import (AlreadyTold, BadOrder, BadPoint, BadSheet, BadSpot, BadWorth, Faulty, NoDifference, NotAsked,
                              NotGuessed)
from whysheets.forks import fork_from
from whysheets.learning import Learner, learn
from whysheets.making import fork_of
from whysheets.plain import worth, worths


def state_of(learner):
    return learner.wants(), learner.told()


def numbers_in(learner, order):
    return {numbers_of(order, point): worth for point, worth in learner.told()}


def taught(test, learner, order, table, choose, others=None, watch=None):
    """The guesses of a learner who is told a table; choose picks the point at which a guess is told to be wrong."""
    guesses = []
    while True:
        word, thing = learner.wants()
        told = numbers_in(learner, order)
        if watch is not None:
            watch(learner)
        if word == "ask":
            test.assertEqual(list(thing), sorted(thing))
            test.assertNotIn(numbers_of(order, thing), told)
            test.assertIsNone(learner.answer(table[numbers_of(order, thing)]))
            continue
        test.assertEqual(word, "guess")
        guess = worth_table(thing)
        guesses.append(guess)
        test.assertTrue(all(guess[point] == here for point, here in told.items()))
        if others is not None:
            test.assertEqual(others.fitting(told, rests_of(order, guess)), [guess])
        wrong = [point for point in order_points(order) if guess[point] != table[point]]
        if not wrong:
            test.assertIsNone(learner.agrees())
            test.assertEqual(learner.wants(), ("known", thing))
            return guesses
        point = choose(wrong)
        test.assertIsNone(learner.differs(named_point(order, point), table[point]))


def keeps_all(test, order, table, guesses, learner):
    """Whether the guesses grow as they must and are few enough, and the answers too."""
    rests = rests_of(order, table)
    sizes = [rests_of(order, guess) for guess in guesses]
    for one, other in zip(sizes, sizes[1:]):
        test.assertTrue(is_no_larger(one, other) and one != other)
    test.assertTrue(all(is_no_larger(size, rests) for size in sizes))
    test.assertEqual(guesses[-1], table)
    test.assertLessEqual(len(guesses), 1 + more_of(rests))
    test.assertLessEqual(len(learner.told()), bound_of(order, rests) + 4 * more_of(rests))


class LearnerTest(unittest.TestCase):
    def test_by_hand(self):
        learner = Learner(order=())
        self.assertEqual(state_of(learner), (("ask", {}), []))
        learner.answer(worth=4)
        leaf = ("fork", (), (("leaf", 4),))
        self.assertEqual(state_of(learner), (("guess", leaf), [({}, 4)]))
        with self.assertRaises(AlreadyTold):
            learner.differs({}, 5)
        learner.agrees()
        self.assertEqual(state_of(learner), (("known", leaf), [({}, 4)]))
        for call in (lambda: learner.agrees(), lambda: learner.differs({}, 5), lambda: learner.answer(5)):
            with self.assertRaises((NotGuessed, NotAsked)):
                call()

    def test_made_forks(self):
        many = 0
        for seed in range(160):
            maker, order, fork, table = made_fork(seed)
            for choose in (min, max, maker.one_of):
                learner = Learner(order)
                guesses = taught(self, learner, order, table, choose)
                keeps_all(self, order, table, guesses, learner)
                self.assertEqual(learner.wants(), ("known", fork))
                many += len(guesses) > 2
        self.assertGreater(many, 60)

    def test_no_other_fork(self):
        """Of all forks of a small order no other one that gives the answers is no larger than a guess."""
        for order, worths in ((BITS, (0, 1)), ((("x", 0, 1), ("y", 3, 5)), (0, 1, None))):
            others = Alternatives(order, worths + (7,)) if order != BITS else Alternatives(order, worths)
            maker = Maker(3)
            for table, _ in maker.shuffled(others.all)[:50]:
                learner = Learner(order)
                guesses = taught(self, learner, order, table, maker.one_of, others)
                keeps_all(self, order, table, guesses, learner)

    def test_many_points(self):
        for sizes, most in (((9, 9, 9), 3), ((3,) * 7, 1), ((5, 5, 5, 5), 2)):
            maker = Maker(sum(sizes))
            order = tuple((name, 0, size - 1) for name, size in zip("abcdefg", sizes))
            table = {point: maker.number(0, most) for point in order_points(order)}
            fork = fork_from(order, list(table.values()))
            sheetless = Learner(order)
            guesses = []
            while sheetless.wants()[0] != "known":
                word, thing = sheetless.wants()
                if word == "ask":
                    sheetless.answer(table[numbers_of(order, thing)])
                else:
                    guess = worth_table(thing)
                    guesses.append(guess)
                    wrong = [point for point in table if guess[point] != table[point]]
                    sheetless.differs(named_point(order, wrong[-1]), table[wrong[-1]]) if wrong else sheetless.agrees()
            keeps_all(self, order, table, guesses, sheetless)
            self.assertEqual(sheetless.wants(), ("known", fork))

    def test_wants_changes_nothing(self):
        learner = Learner(XY)
        for _ in range(3):
            first = state_of(learner)
            self.assertEqual(state_of(learner), first)
            learner.wants()[1].clear()
            learner.told().append(None)
            for point, _ in learner.told():
                point.clear()
            self.assertEqual(state_of(learner), first)
            learner.answer(1)

    def test_copied(self):
        for seed in range(60):
            maker, order, _, table = made_fork(seed)
            copies = []

            def watch(learner):
                if maker.chance(3):
                    copies.append((learner.copied(), state_of(learner)))
            first = Learner(order)
            guesses = taught(self, first, order, table, min, watch=watch)
            for other, state in copies:
                # What was done to the first one has left the copy as it was.
                self.assertEqual(state_of(other), state)
                if other.wants()[0] != "known":
                    taught(self, other, order, table, min)
                self.assertEqual(other.told(), first.told())
            self.assertEqual(guesses[-1], table)
            again = first.copied()
            self.assertEqual(state_of(again), state_of(first))

    def test_wrong_deeds_change_nothing(self):
        bad_worths = ["1", (1,), True, False, Odd(), [], *[thing for thing in odd_values() if thing is not None and thing not in (0, 1, -5)]]
        table = worth_table(LEAST)
        learner = Learner(XY)
        asked = guessed = 0
        while learner.wants()[0] != "known":
            word, thing = learner.wants()
            before = state_of(learner)
            for wrong in bad_worths:
                with self.assertRaises(BadWorth):
                    learner.answer(wrong)
                with self.assertRaises(BadWorth):
                    learner.differs({"x": 0, "y": 0}, wrong)
            for point in ({"x": 0}, {"x": 0, "y": 3}, {"x": 0, "y": True}, {"x": 0, "y": 0, "z": 0}, *odd_values()):
                with self.assertRaises(BadPoint):
                    learner.differs(point, "no worth")
            if word == "ask":
                asked += 1
                with self.assertRaises(NotGuessed):
                    learner.agrees()
                with self.assertRaises(NotGuessed):
                    learner.differs({"x": 0, "y": 0}, 9)
                self.assertEqual(state_of(learner), before)
                learner.answer(table[numbers_of(XY, thing)])
                continue
            guessed += 1
            with self.assertRaises(NotAsked):
                learner.answer(0)
            told = numbers_in(learner, XY)
            guess = worth_table(thing)
            for point in order_points(XY):
                if point in told:
                    with self.assertRaises(AlreadyTold):
                        learner.differs(named_point(XY, point), told[point])
                    with self.assertRaises(AlreadyTold):
                        learner.differs(named_point(XY, point), 99)
                else:
                    with self.assertRaises(NoDifference):
                        learner.differs(named_point(XY, point), guess[point])
            self.assertEqual(state_of(learner), before)
            wrong = [point for point in table if guess[point] != table[point]]
            if wrong:
                point = named_point(XY, wrong[0])
                learner.differs(point=point, worth=table[wrong[0]])
                point["x"] = 77
                self.assertEqual(learner.told()[-1], (named_point(XY, wrong[0]), table[wrong[0]]))
            else:
                learner.agrees()
        self.assertGreater(min(asked, guessed), 1)
        known = state_of(learner)
        with self.assertRaises(NotAsked):
            learner.answer(0)
        with self.assertRaises(NotGuessed):
            learner.agrees()
        with self.assertRaises(NotGuessed):
            learner.differs({"x": 0, "y": 0}, 9)
        self.assertEqual(state_of(learner), known)

    def test_learn(self):
        for seed in range(60):
            maker = Maker(seed)
            sheet = maker.sheet(4, 3, 3)
            order = tuple(maker.shuffled(order_of_inputs(sheet)))
            inputs = [one[1] for one in sheet[1]]
            spot = maker.one_of([one for one in worths_of(sheet) if one not in inputs])
            fork, answers = learn(sheet, spot, order)
            self.assertEqual(fork, fork_of(sheet, spot, order))
            table = worth_table(fork)
            learner = Learner(order)
            taught(self, learner, order, table, min)
            self.assertEqual(answers, learner.told())
            self.assertTrue(all(worth(sheet, point, spot) == here for point, here in answers))

    def test_errors(self):
        for thing in [thing for thing in odd_values() if thing != ()] + [(("x", 0, 9),), (("x", 0, 1),) * 2, [("x", 0, 1)], (("x", 0, True),)]:
            with self.assertRaises(BadOrder):
                Learner(thing)
        sheet = ("sheet", (("input", "x", 0, 2), ("input", "y", 0, 2)), (("cell", "c", ("least", ("name", "x"), ("name", "y"))),))
        self.assertEqual(learn(sheet=sheet, spot="c", order=XY)[0], LEAST)
        for thing in odd_values():
            with self.assertRaises(BadSheet):
                learn(thing, None, None)
            with self.assertRaises(BadSpot):
                learn(sheet, thing, None)
            with self.assertRaises(BadOrder):
                learn(sheet, "c", thing)
        with self.assertRaises(Faulty):
            learn(FAULTY, None, None)
        for order in (XY[:1], XY + (("z", 0, 1),), (("x", 0, 1), ("y", 0, 2))):
            with self.assertRaises(BadOrder):
                learn(sheet, "c", order)


def worths_of(sheet):
    return list(worths(sheet, all_points(sheet)[0]))


if __name__ == "__main__":
    unittest.main()
