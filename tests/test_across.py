"""What holds over several parts: all roads tell the same."""

import unittest

from tests.making import Maker, all_points, all_spots
from tests.reckoning import Reckoner
from tests.test_making import order_of_inputs
from tests.turning import grants_all, made_case
from whysheets.asking import best_scheme
from whysheets.bounds import stretch
from whysheets.boxes import whole
from whysheets.counts import counted
from whysheets.errors import NotWritten, TooMany
from whysheets.finding import find
from whysheets.forks import worth_at
from whysheets.grounds import cheapest_grounds
from whysheets.joins import mapped
from whysheets.making import fork_of
from whysheets.mirrors import mirror
from whysheets.nearest import ladder, nearest
from whysheets.partings import nearest_parting
from whysheets.plain import worth
from whysheets.schemes import trail
from whysheets.texts import read_sheet, sheet_text
from whysheets.turns import box_beside, moves, wall_within
from whysheets.written import as_sheet, normal_text


class AcrossTest(unittest.TestCase):
    def test_worths(self):
        for seed in range(40):
            maker = Maker(seed)
            sheet = maker.sheet(5, 3, 3)
            order = tuple(maker.shuffled(order_of_inputs(sheet)))
            inputs = [one[1] for one in sheet[1]]
            again = read_sheet(sheet_text(sheet))
            for spot in [one for one in all_spots(sheet) if one not in inputs][:5]:
                fork = fork_of(sheet, spot, order)
                try:
                    other = as_sheet(fork, "zz")
                    text = read_sheet(normal_text(sheet, spot, order, "zz"))
                except (NotWritten, TooMany):
                    other = text = None
                for point in maker.shuffled(all_points(sheet))[:6]:
                    here = Reckoner(sheet, point).worth(spot)
                    self.assertEqual(worth(sheet, point, spot), here)
                    self.assertEqual(worth(again, point, spot), here)
                    self.assertEqual(worth_at(fork, point), here)
                    for one in (other, text):
                        if one is not None:
                            self.assertEqual(worth(one, point, "zz"), here)
                    box = {name: tuple(sorted({point[name], *numbers})) for name, numbers in maker.box(sheet).items()}
                    low, high, may = stretch(sheet, box, spot)
                    self.assertTrue(may if here is None else low <= here <= high)
                weights = {name: (1,) * (high - low + 1) for name, low, high in order}
                wanted = {}
                for point in all_points(sheet):
                    here = worth(sheet, point, spot)
                    wanted[here] = wanted.get(here, 0) + 1
                self.assertEqual(counted(fork, weights), wanted)

    def test_what_forces_a_worth(self):
        """The wish for another worth: its walls, its nearest turn, and what is asked to know it."""
        for seed in range(60):
            maker, sheet, point, wishes = made_case(seed)
            spot = wishes[0][0]
            here = worth(sheet, point, spot)
            wish = (spot, (here,), False)
            claim = ((wish,), None)
            wall = wall_within(sheet, point, [wish], tuple(moves(sheet, point)))
            box = box_beside(sheet, point, wall)
            self.assertEqual(find(sheet, box, claim)[0], "paper")
            self.assertTrue(all(worth(sheet, one, spot) == here for one in all_points(sheet) if all(one[name] in box[name] for name in box)))
            prices = maker.prices(sheet)
            order = order_of_inputs(sheet)
            fork = fork_of(sheet, spot, order)
            constant = ("fork", order, (("leaf", here),))
            apart = nearest_parting(fork, constant, point, prices)
            found = nearest(sheet, point, [wish], prices)
            steps = [price for other, price in ladder(sheet, spot, point, prices) if other != here]
            if apart is None:
                self.assertEqual((found, steps), (None, []))
                self.assertEqual(mirror(sheet, point, [wish], 200), ([], [()]))
            else:
                self.assertEqual((found[0], steps[0]), (apart[0], apart[0]))
            _, scheme = best_scheme(sheet, whole(sheet), spot, prices, None)
            asked = {question[1] for question, _ in trail(sheet, whole(sheet), spot, scheme, point)}
            price, names = cheapest_grounds(sheet, point, spot, prices)
            self.assertLessEqual(price, sum(prices[name] for name in asked))
            # A wall for another worth has a move of each ground's negation: the grounds alone shut all turns out.
            lot = tuple(move for move in moves(sheet, point) if move[0] in names)
            self.assertIsNotNone(wall_within(sheet, point, [wish], lot))

    def test_wishes_as_forks(self):
        """Turns are the points at which the forks of the wishes have their worths."""
        for seed in range(40):
            maker, sheet, point, wishes = made_case(seed)
            order = order_of_inputs(sheet)
            granted = {}
            for k, (spot, worths, is_in) in enumerate(wishes):
                fork = fork_of(sheet, spot, order)
                table = {n: int((n in worths) == is_in) for n in range(-999, 1000)}
                told = mapped(fork, table, int((None in worths) == is_in))
                for one in all_points(sheet):
                    granted.setdefault(tuple(one.items()), []).append(worth_at(told, one))
            for one in all_points(sheet):
                self.assertEqual(all(granted[tuple(one.items())]), grants_all(sheet, one, wishes))


if __name__ == "__main__":
    unittest.main()
