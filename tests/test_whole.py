"""What holds over the whole program: all roads tell the same."""

import unittest

from tests.making import Maker, all_points, all_spots
from tests.reckoning import Reckoner
from tests.test_making import order_of_inputs
from whysheets.asking import best_scheme
from whysheets.bits import pack, unpack
from whysheets.books import book_of
from whysheets.boxes import whole
from whysheets.bounds import stretch
from whysheets.counts import counted
from whysheets.courses import stakes
from whysheets.differences import difference
from whysheets.edits import edited
from whysheets.errors import NotWritten, OpenWorth, TooMany
from whysheets.finding import find, worths_over
from whysheets.forks import worth_at
from whysheets.grounds import cheapest_grounds
from whysheets.hands import sure
from whysheets.learning import Learner, learn
from whysheets.machine import read, walls_from
from whysheets.making import fork_of, same_worths
from whysheets.nearest import ladder, nearest
from whysheets.partings import nearest_parting
from whysheets.plain import worth, worths
from whysheets.quarrels import is_quarrel
from whysheets.rests import lesson, rests
from whysheets.schemes import trail
from whysheets.sessions import Session
from whysheets.texts import read_sheet, sheet_text
from whysheets.trees import changed_at, paths, tree_at
from whysheets.turns import box_beside, moves, wall_within
from whysheets.wishes import repair
from whysheets.written import as_sheet


def cell_spots(sheet):
    inputs = [one[1] for one in sheet[1]]
    return [spot for spot in all_spots(sheet) if spot not in inputs]


def made(seed, cells=5, inputs=3):
    maker = Maker(seed)
    sheet = maker.sheet(cells, inputs, 3)
    return maker, sheet, tuple(maker.shuffled(order_of_inputs(sheet)))


class WholeTest(unittest.TestCase):
    def test_worths(self):
        written = 0
        for seed in range(40):
            maker, sheet, order = made(seed)
            book = book_of(sheet, order)
            bits = pack(book)
            spots = cell_spots(sheet)
            self.assertEqual(unpack(order, spots, bits), book)
            points = maker.shuffled(all_points(sheet))[:4]
            plain = ("sheet", sheet[1], (("cell", "zz", ("number", 7)),))
            session = Session(plain, points[0])
            session.edit(difference(plain, sheet))
            text = read_sheet(sheet_text(sheet))
            learned = {spot: learn(sheet, spot, order)[0] for spot in spots}
            sheets = {}
            for spot, fork in book[2]:
                try:
                    sheets[spot] = as_sheet(fork, "zz")
                    written += 1
                except (NotWritten, TooMany):
                    pass
            for point in points:
                session.put(point)
                told = read(order, len(spots), ("worth", point), bits)
                for page, (spot, fork) in enumerate(book[2]):
                    here = Reckoner(sheet, point).worth(spot)
                    self.assertEqual([worth(sheet, point, spot), worth_at(fork, point), worth_at(learned[spot], point), told[page], session.worth(spot),
                                      worth(text, point, spot)], [here] * 6)
                    if spot in sheets:
                        self.assertEqual(worth(sheets[spot], point, "zz"), here)
                    box = {name: tuple(sorted({point[name], *numbers})) for name, numbers in maker.box(sheet).items()}
                    low, high, may = stretch(sheet, box, spot)
                    self.assertTrue(may if here is None else low is not None and low <= here <= high)
        self.assertGreater(written, 60)

    def test_why_and_turn(self):
        turns = 0
        for seed in range(60):
            maker, sheet, order = made(seed, 4)
            point, prices = maker.point(sheet), maker.prices(sheet)
            book = book_of(sheet, order)
            bits, pages = pack(book), len(book[2])
            walls = walls_from(order, pages, bits, point)
            near = read(order, pages, ("nearest", point, prices), bits)
            for page, (spot, fork) in enumerate(book[2]):
                here = worth(sheet, point, spot)
                wish = (spot, (here,), False)
                wall = wall_within(sheet, point, [wish], tuple(moves(sheet, point)))
                self.assertEqual(walls[page], wall)
                box = box_beside(sheet, point, wall)
                self.assertEqual(find(sheet, box, ((wish,), None))[0], "paper")
                self.assertEqual([one for one, _ in worths_over(sheet, box, spot)], [here])
                self.assertIs(is_quarrel(sheet, box, [wish], (0,)), True)
                steps = ladder(sheet, spot, point, prices)
                self.assertEqual({one: price for one, (price, _) in near[page].items()}, dict(steps))
                found = nearest(sheet, point, [wish], prices)
                apart = nearest_parting(fork, ("fork", order, (("leaf", here),)), point, prices)
                game = tuple((one[1], "mine") for one in maker.shuffled(sheet[1]))
                plan = sure(sheet, point, game, prices, wish)
                mended = repair(sheet, point, whole(sheet), prices, [wish])
                if found is None:
                    self.assertEqual((apart, plan[0], mended, len(steps)), (None, "spoiled", None, 1))
                else:
                    turns += 1
                    least = min(price for one, (price, _) in near[page].items() if one != here)
                    self.assertEqual([apart[0], least, plan[1], mended[0], steps[1][1]], [found[0]] * 5)
                    self.assertEqual(mended, found)
        self.assertGreater(turns, 80)

    def test_counts_and_grounds(self):
        summed = 0
        for seed in range(50):
            maker, sheet, order = made(seed, 4)
            weights = {name: tuple(maker.number(1, 3) for _ in range(high - low + 1)) for name, low, high in order}
            game = tuple((one[1], "chance") for one in maker.shuffled(sheet[1]))
            point, prices = maker.point(sheet), maker.prices(sheet)
            for spot in cell_spots(sheet)[:4]:
                fork = fork_of(sheet, spot, order)
                counts = counted(fork, weights)
                self.assertEqual(read(order, 1, ("count", weights), pack(("book", order, ((spot, fork),)))), (counts,))
                try:
                    found = stakes(sheet, spot, game, weights)[0]
                    summed += 1
                    self.assertEqual(found, sum(one * count for one, count in counts.items()))
                except OpenWorth as error:
                    self.assertIsNone(worth(sheet, error.point, spot))
                    self.assertIn(None, counts)
                _, scheme = best_scheme(sheet, whole(sheet), spot, prices, None)
                asked = {question[1] for question, _ in trail(sheet, whole(sheet), spot, scheme, point)}
                same = [one for one in all_points(sheet) if all(one[name] == point[name] for name in asked)]
                self.assertEqual({worth(sheet, one, spot) for one in same}, {worth(sheet, point, spot)})
                self.assertLessEqual(cheapest_grounds(sheet, point, spot, prices)[0], sum(prices[name] for name in asked))
        self.assertGreater(summed, 60)

    def test_the_same_bits(self):
        """Two sheets with the same inputs and spots have the same bits exactly if they have the same worths at all points."""
        met = {True: 0, False: 0}
        for seed in range(120):
            maker, sheet, order = made(seed, 3, 2)
            numbers = [path for path in paths(sheet) if tree_at(sheet, path)[0] == "number"]
            if not numbers:
                continue
            path = maker.one_of(numbers)
            other = changed_at(sheet, path, ("number", tree_at(sheet, path)[1] + maker.number(-1, 1)))
            are_same = all(same_worths(sheet, spot, other, spot) is None for spot in cell_spots(sheet))
            met[are_same] += 1
            self.assertEqual(pack(book_of(sheet, order)) == pack(book_of(other, order)), are_same)
            self.assertEqual(all(worths(sheet, point) == worths(other, point) for point in all_points(sheet)), are_same)
        self.assertGreater(min(met.values()), 20)

    def test_learned_from_a_machine(self):
        """A learner who asks a machine comes to know the page's fork, and its lesson parts it from pages that are no larger."""
        parted = 0
        for seed in range(40):
            _, sheet, order = made(seed, 4)
            book = book_of(sheet, order)
            bits, pages = pack(book), len(book[2])
            for page, (_, fork) in enumerate(book[2]):
                learner = Learner(order)
                while learner.wants()[0] != "known":
                    word, thing = learner.wants()
                    if word == "ask":
                        learner.answer(read(order, pages, ("worth", thing), bits)[page])
                        continue
                    wrong = [point for point in all_points(sheet) if worth_at(thing, point) != worth_at(fork, point)]
                    learner.differs(wrong[-1], read(order, pages, ("worth", wrong[-1]), bits)[page]) if wrong else learner.agrees()
                self.assertEqual(learner.wants(), ("known", fork))
                answers = lesson(fork)
                for _, other in book[2]:
                    if other != fork and all(a <= b for a, b in zip(rests(other), rests(fork))):
                        parted += 1
                        self.assertTrue(any(worth_at(other, point) != here for point, here in answers))
        self.assertGreater(parted, 30)

    def test_texts(self):
        """A text that is read, changed, written and read again has the worths of its sheet."""
        for seed in range(40):
            maker, sheet, _ = made(seed, 4)
            edits = [("add", maker.number(0, len(sheet[2])), ("cell", "zz", ("name", sheet[1][0][1])))]
            behind = read_sheet(sheet_text(edited(read_sheet(sheet_text(sheet)), edits)))
            for point in maker.shuffled(all_points(sheet))[:3]:
                wanted = worths(sheet, point)
                wanted["zz"] = point[sheet[1][0][1]]
                self.assertEqual(worths(behind, point), wanted)


if __name__ == "__main__":
    unittest.main()
