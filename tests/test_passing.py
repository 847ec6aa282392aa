"""What holds for each function: it changes nothing that it is passed, what it returns is new, and names may be passed."""

import copy
import importlib
import unittest

from tests import editing, inquiring, packing, playing, turning, wishing, writing
from tests.test_forks import LEAST, XY
from tests.test_interface import INTERFACE
from tests.test_opponents import GOOD
from tests.test_courses import COURSE, DRAWN, WEIGHTS
from tests.test_hands import DEAR, PLAN
from tests.test_schemes import PLAIN
from whysheets.bargains import front_paper
from whysheets.forks import fork_from
from whysheets.mirrors import mirror_tree
from whysheets.orders import fewest
from whysheets.shown import turns_by_move, walls_by_move

OTHER = fork_from(XY, [max(x, y) for x in range(3) for y in range(3)])
ONES = {"y": (1, 1, 1), "x": (1, 2, 1)}
POINT = {"y": 2, "x": 1}
PRICES = {"y": 1, "x": 2}
BOX = {"y": (0, 2), "x": (0, 1, 2)}
SHEET = inquiring.SHEET
CLAIM = ((("c", (2,), True),), ({"y": 0, "x": 0}, PRICES, 4))
PAPER = ("split", "x", (((0, 1), ("bounds",)), ((2,), ("far",))))
BEGIN = turning.ZERO
TURN = turning.PAIRS[0]
WISHES = [turning.WISH]
COSTS = {"c": 1, "b": 2, "a": 3}
ABC = turning.SHEET

CALLS = {
    "orders": {"reordered": (LEAST, XY[::-1]), "exchanged": (LEAST, 0), "levels": (LEAST,), "width": (LEAST, ("x",), "y"),
               "are_fair": (LEAST, fewest(LEAST)[2]), "fewest": (LEAST,)},
    "counts": {"counted": (LEAST, ONES), "rank": (LEAST, POINT), "ranked": (LEAST, 1, 2)},
    "partings": {"parting": (LEAST, OTHER), "nearest_parting": (LEAST, OTHER, POINT, PRICES), "idle": (LEAST,),
                 "untwin": (OTHER, "x", "y"), "families": (LEAST,)},
    "making": {"fork_of": (SHEET, "c", XY), "same_worths": (SHEET, "c", SHEET, "x")},
    "sways": {"sway": (LEAST,), "shares": (LEAST, {"y": 0, "x": 0}, POINT)},
    "bunches": {"apart": (LEAST, ("x",)), "bunches": (LEAST,)},
    "written": {"as_expression": (LEAST,), "as_sheet": (LEAST, "c"), "normal_text": (SHEET, "c", XY, "c")},
    "papers": {"breaks": (SHEET, POINT, CLAIM), "is_paper": (SHEET, PAPER), "leaf_boxes": (SHEET, BOX, PAPER)},
    "judge": {"judge": (SHEET, BOX, CLAIM, PAPER), "pressed": (SHEET, BOX, CLAIM, PAPER),
              "restricted": (SHEET, BOX, PAPER, {"y": (0,), "x": (0, 2)})},
    "finding": {"find": (SHEET, BOX, (CLAIM[0], None)), "worths_over": (SHEET, BOX, "c"), "fewest": (SHEET, BOX, CLAIM),
                "shortest": (SHEET, BOX, CLAIM)},
    "turns": {"moves": (ABC, BEGIN), "behind": (ABC, BEGIN, TURN), "way_to": (ABC, BEGIN, {"c": 1, "b": 0, "a": 1}),
              "is_turn": (ABC, BEGIN, WISHES, TURN), "shuts": (ABC, BEGIN, WISHES, TURN), "box_beside": (ABC, BEGIN, TURN),
              "wall_of": (ABC, BEGIN, {"c": (0, 1), "b": (0,), "a": (0,)}), "turn_within": (ABC, BEGIN, WISHES, turning.ALL),
              "wall_within": (ABC, BEGIN, WISHES, turning.ALL)},
    "shown": {"walls_by_move": (ABC, BEGIN, WISHES, TURN), "turns_by_move": (ABC, BEGIN, WISHES, TURN),
              "is_turn_shown": (ABC, BEGIN, WISHES, TURN, walls_by_move(ABC, BEGIN, WISHES, TURN)),
              "is_shut_shown": (ABC, BEGIN, WISHES, TURN, turns_by_move(ABC, BEGIN, WISHES, TURN))},
    "mirrors": {"mirror": (ABC, BEGIN, WISHES, 5), "mirror_tree": (ABC, BEGIN, WISHES, 5),
                "is_mirror_tree": (ABC, BEGIN, list(turning.PAIRS), list(turning.PAIRS), mirror_tree(ABC, BEGIN, WISHES, 5)),
                "idle_moves": (ABC, BEGIN, WISHES), "roomiest": (ABC, BEGIN, WISHES, 5)},
    "nearest": {"price": (ABC, BEGIN, COSTS, TURN), "nearest": (ABC, BEGIN, WISHES, COSTS),
                "nearest_many": (ABC, BEGIN, WISHES, COSTS, 2), "ladder": (ABC, "s", BEGIN, COSTS)},
    "schemes": {"is_scheme": (SHEET, inquiring.WHOLE, "c", PLAIN), "trail": (SHEET, inquiring.WHOLE, "c", PLAIN, POINT),
                "worst_price": (SHEET, inquiring.WHOLE, "c", PRICES, PRICES, PLAIN)},
    "asking": {"best_scheme": (SHEET, BOX, "c", PRICES, PRICES)},
    "opponents": {"is_opponent": (SHEET, inquiring.WHOLE, "c", PRICES, None, 2, GOOD), "opponent": (SHEET, BOX, "c", PRICES, PRICES)},
    "grounds": {"cheapest_grounds": (SHEET, POINT, "c", PRICES)},
    "inquiry": {},
    "hands": {"is_plan": (SHEET, POINT, playing.GAME, PRICES, playing.WISH, 4, PLAN), "is_spoiler": (SHEET, POINT, playing.GAME, PRICES, playing.WISH, 2, DEAR),
              "sure": (SHEET, POINT, playing.GAME, PRICES, playing.WISH), "spoiler": (SHEET, POINT, playing.GAME, PRICES, playing.WISH, 1)},
    "grips": {"is_grip": (SHEET, ("y", "x"), playing.WISH, ("x",)), "is_lock": (SHEET, ("y", "x"), playing.WISH, ("x",)),
              "grips": (SHEET, ("y", "x"), playing.WISH), "locks": (SHEET, ("y", "x"), playing.WISH)},
    "courses": {"is_course": (SHEET, "c", DRAWN, "mine", COURSE), "due": (SHEET, "c", DRAWN, WEIGHTS, "mine", COURSE),
                "stakes": (SHEET, "c", DRAWN, {"y": (1, 2, 3), "x": (1, 1, 1)})},
    "matches": {},
    "wishes": {"granted": (wishing.SHEET, BEGIN, wishing.WISHES), "repair": (wishing.SHEET, BEGIN, wishing.WHOLE, COSTS, wishing.WISHES[:1])},
    "quarrels": {name: (wishing.SHEET, {"c": (0, 1), "b": (0, 1), "a": (0, 1)}, wishing.WISHES) + more for name, more in
                 (("is_quarrel", ((0, 1),)), ("is_peace", ((0, 1),)), ("quarrels", ()), ("peaces", ()), ("quarrel_within", ((0, 1, 2),)),
                  ("peace_within", ((0, 1, 2),)), ("idle_wishes", ()), ("peace_point", ((1,),)), ("cheapest_peace", (wishing.WEIGHTS,)),
                  ("bar", (wishing.WEIGHTS,)), ("is_bar", (wishing.WEIGHTS, 3, [(0, 1)])), ("blame", ()))},
    "bargains": {name: (wishing.SHEET, BEGIN, wishing.WHOLE, COSTS, wishing.WISHES, wishing.WEIGHTS) + more for name, more in
                 (("bargains", ()), ("tradeoff", (2,)), ("front_paper", ()),
                  ("is_front_paper", ([(0, 5, ())], front_paper(wishing.SHEET, BEGIN, wishing.WHOLE, COSTS, wishing.WISHES, wishing.WEIGHTS))))},
    "edits": {"is_edit": (("drop", "a"),), "edited": (editing.SHEET, [("drop", "k"), ("range", "m", 0, 1)]),
              "inverse": (editing.SHEET, [("drop", "k"), ("range", "m", 0, 1)])},
    "differences": {"difference": (editing.SHEET, editing.SHEET[:2] + (editing.SHEET[2][::-1],)),
                    "distance": (editing.SHEET, editing.SHEET[:2] + (editing.SHEET[2][::-1],))},
    "sessions": {},
    "lots": {"is_lot": (writing.ONE,)},
    "writers": {"changed": (writing.SHEET, writing.ONE), "lot_between": (writing.SHEET, editing.SHEET[:1] + writing.SHEET[1:2] + (writing.SHEET[2][::-1],)),
                "breach": (writing.SHEET, ["ok"]), "collision": (writing.SHEET, ["ok"], writing.ONE, writing.OTHER),
                "joined": (writing.SHEET, ["ok"], writing.ONE, ())},
    "rests": {"rests": (LEAST,), "lesson": (LEAST,)},
    "learning": {"learn": (SHEET, "c", XY)},
    "books": {"is_book": (packing.BOOK,), "book_of": (SHEET, XY)},
    "bits": {"pack": (packing.BOOK,), "unpack": (XY, ["c"], packing.BITS), "filled": (XY, ["c"], packing.BITS[:5])},
    "foretold": {"foretold": (XY, ["c"], packing.BITS[:5], POINT)},
    "machine": {"read": (XY, 1, ("nearest", POINT, PRICES), packing.BITS), "walls_from": (XY, 1, packing.BITS, POINT)},
    "desk": {},
}


def changeable(thing):
    """All lists and dicts within a value."""
    found = []
    if isinstance(thing, (list, dict)):
        found.append(thing)
    if isinstance(thing, (list, tuple)):
        for one in thing:
            found += changeable(one)
    if isinstance(thing, dict):
        for key, one in thing.items():
            found += changeable(key) + changeable(one)
    return found


def are_sorted(thing):
    """Whether all dicts within a value have ascending keys, None behind all others."""
    return all(list(one) == sorted(one, key=lambda key: (key is None, key)) for one in changeable(thing)
               if isinstance(one, dict) and None not in one)


class PassingTest(unittest.TestCase):
    def test_all_are_called(self):
        modules = list(INTERFACE)
        for module in modules[modules.index("orders"):]:
            self.assertEqual(set(CALLS[module]), set(INTERFACE[module]), module)

    def test_what_is_passed_and_returned(self):
        for module, calls in CALLS.items():
            for name, told in calls.items():
                function = getattr(importlib.import_module(f"whysheets.{module}"), name)
                passed = copy.deepcopy(told)
                orders = [list(one) for one in changeable(passed)]
                found = function(*passed)
                self.assertEqual(passed, told, name)
                self.assertEqual([list(one) for one in changeable(passed)], orders, name)
                again = function(**dict(zip(INTERFACE[module][name].split(), passed)))
                self.assertEqual(again, found, name)
                self.assertTrue(are_sorted(found), name)
                own = changeable(found)
                others = {id(one) for one in changeable(passed) + changeable(again)}
                self.assertFalse(others & {id(one) for one in own}, name)
                self.assertEqual(len({id(one) for one in own}), len(own), name)

    def test_lists_and_tuples(self):
        """Where a list is expected a tuple will do."""
        for module in ("turns", "shown", "mirrors", "nearest", "wishes", "quarrels", "bargains", "edits", "writers", "bits",
                       "foretold", "machine"):
            for name, told in CALLS[module].items():
                function = getattr(importlib.import_module(f"whysheets.{module}"), name)
                other = [tuple(one) if isinstance(one, list) else one for one in told]
                self.assertEqual(function(*other), function(*told), name)


if __name__ == "__main__":
    unittest.main()
