import unittest

from tests.making import Maker, Odd, all_points, all_spots, odd_values
from tests.editing import some_edit
from whysheets.asking import best_scheme
from whysheets.boxes import whole
from whysheets.counts import counted
from whysheets.desk import Desk
from whysheets.errors import BadText, Faulty, NoFit, SheetError
from whysheets.grips import is_grip
from whysheets.making import fork_of
from whysheets.names import reads
from whysheets.nearest import nearest
from whysheets.plain import worth
from whysheets.sessions import Session
from whysheets.texts import cell_text, read_cell, read_sheet, sheet_text
from whysheets.turns import box_beside, moves, wall_within

TEXT = """input n from 0 to 3
input m from 0 to 2
row r of 3 = r[place -1 else m] + n
settle s from 0 to 5 start 0 = if n == 3 then 5 - t else s
settle t from 0 to 5 start n = s
cell b = r[3] < 6
"""


def spot_text(spot):
    return spot if isinstance(spot, str) else f"{spot[0]}[{spot[1]}]"


def knot_text(knot):
    if isinstance(knot, tuple) and isinstance(knot[-1], str):
        return f"({' '.join(knot)})"
    return spot_text(knot)


def worth_text(worth):
    return "open" if worth is None else str(worth)


def told_list(things):
    return f"({' '.join(things)})"


def pairs_text(pairs):
    return told_list(f"{name} {n}" for name, n in pairs)


class Told:
    """What a desk answers, put together from what the functions of the package tell."""

    def __init__(self, text):
        self.sheet = read_sheet(text)
        self.session = Session(self.sheet, {one[1]: one[2] for one in self.sheet[1]})
        self.prices = {one[1]: 1 for one in self.sheet[1]}

    def now(self):
        return self.session.sheet(), self.session.point()

    def wish(self, spot):
        return [(spot, (self.session.worth(spot),), False)]

    def deed(self, function, told):
        try:
            return told_list(map(knot_text, function(told)))
        except SheetError as error:
            return f"error {type(error).__name__}"

    def why(self, spot):
        sheet, point = self.now()
        box = box_beside(sheet, point, wall_within(sheet, point, self.wish(spot), tuple(moves(sheet, point))))
        full = whole(sheet)
        return told_list(told_list([name, *map(str, box[name])]) for name in sorted(box) if box[name] != full[name])

    def turn(self, wishes):
        found = nearest(*self.now(), wishes, self.prices)
        return "none" if found is None else f"{found[0]} {pairs_text(found[1])}"

    def count(self, spot):
        sheet, _ = self.now()
        order = tuple(one[1:] for one in sheet[1])
        found = counted(fork_of(sheet, spot, order), {name: (1,) * (high - low + 1) for name, low, high in order})
        return told_list(f"{worth_text(worth)} {found[worth]}" for worth in found)


def questions(sheet):
    """All questions that have no number in them."""
    spots = all_spots(sheet)
    inputs = [one[1] for one in sheet[1]]
    found = ["where"] + [f"text {one[1]}" for one in sheet[1] + sheet[2]]
    for spot in spots:
        found += [f"worth {spot_text(spot)}", f"reads {spot_text(spot)}", f"count {spot_text(spot)}"]
        if spot not in inputs:
            found += [f"why {spot_text(spot)}", f"turn {spot_text(spot)}", f"ask {spot_text(spot)}", f"turn {spot_text(spot)} 1", f"grip {spot_text(spot)} 1 {inputs[0]}"]
    return found


class DeskTest(unittest.TestCase):
    def test_questions(self):
        desk = Desk(text=TEXT)
        for line, wanted in (("where", "(m 0 n 0)"), ("worth b", "1"), ("worth r[2]", "0"), ("worth n", "0"), ("text n", "input n from 0 to 3"), ("text b", "cell b = r[3] < 6"),
                             ("text r", "row r of 3 = r[place -1 else m] + n"), ("text t", "settle t from 0 to 5 start n = s"), ("reads r[1]", "(m n)"), ("reads r[2]", "(n r[1])"),
                             ("reads b", "(r[3])"), ("reads m", "()"), ("reads s", "(n s t)"), ("put n 3", "((s t) r[1] r[2] r[3] b)"), ("where", "(m 0 n 3)"), ("worth s", "open"),
                             ("worth b", "0"), ("why b", "((n 2 3))"), ("turn b", "2 (n 1)"), ("turn b 1", "2 (n 1)"), ("turn b 7", "none"), ("ask b", "1"), ("count b", "(0 6 1 6)"),
                             ("count s", "(0 9 open 3)"), ("count m", "(0 4 1 4 2 4)"), ("grip b 1 n", "yes"), ("grip b 1", "no"), ("grip b 1 m", "no"), ("grip b 1 n m", "yes"),
                             ("price n 3", "ok"), ("turn b 1", "6 (n 1)"), ("put m 2", "(r[1] r[2] r[3] b)"), ("turn r[3] 3", "8 (m 0 n 1)"), ("why r[1]", "((m 2) (n 3))"),
                             ("undo", "ok"), ("undo", "ok"), ("worth s", "0"), ("turn b", "6 (n 2)"), ("redo", "ok"), ("worth s", "open"), ("drop b", "()"), ("worth b", "error BadSpot")):
            self.assertEqual(desk.say(line), wanted, line)
        self.assertEqual(desk.say(line="where"), "(m 0 n 3)")

    def test_cells(self):
        desk = Desk(TEXT)
        self.assertEqual(desk.say("cell b = m"), "(b)")
        self.assertEqual(desk.say("  row\nq\n of 2 =\n\n place * m "), "(q[1] q[2])")
        self.assertEqual(desk.say("text q"), "row q of 2 = place * m")
        self.assertEqual(desk.say("settle u from 0 to 2 start 0 = u"), "((u))")
        self.assertEqual(desk.say("row q of 3 = place * m"), "(q[1] q[2] q[3])")
        self.assertEqual(desk.session.sheet()[2][-2:], (read_cell("row q of 3 = place * m"), read_cell("settle u from 0 to 2 start 0 = u")))
        self.assertEqual(desk.say("put m 1"), "(b q[1] q[2] q[3] r[1] r[2] r[3])")
        self.assertEqual(desk.say("range m 2 4"), "(b q[1] q[2] q[3] r[1] r[2] r[3])")
        self.assertEqual(desk.say("where"), "(m 2 n 0)")
        self.assertEqual(desk.say("text m"), "input m from 2 to 4")

    def test_errors(self):
        desk = Desk(TEXT)
        for line, word in (("put n 4", "BadNumbers"), ("put z 0", "BadNumbers"), ("put b 0", "BadNumbers"), ("range n 3 0", "BadEdits"), ("range z 0 1", "NoPlace"), ("range b 0 1", "NoPlace"),
                           ("drop z", "NoPlace"), ("drop n", "NoPlace"), ("drop r", "Faulty"), ("undo", "NothingDone"), ("redo", "NothingUndone"), ("price b 1", "BadName"),
                           ("price z 0", "BadName"), ("price n 0", "BadPrices"), ("price n -1", "BadPrices"), ("text z", "BadName"), ("worth z", "BadSpot"), ("worth r", "BadSpot"),
                           ("worth r[4]", "BadSpot"), ("worth r[0]", "BadSpot"), ("worth r[-1]", "BadSpot"), ("worth b[1]", "BadSpot"), ("reads z", "BadSpot"), ("why z", "BadSpot"),
                           ("why n", "BadWishes"), ("turn z", "BadSpot"), ("turn n", "BadWishes"), ("turn z 1", "BadWishes"), ("turn n 1", "BadWishes"), ("turn r 1", "BadWishes"),
                           ("turn b 1", "NowSo"), ("ask n", "BadSpot"), ("ask r", "BadSpot"), ("count z", "BadSpot"), ("grip n 1", "BadWish"), ("grip z 1", "BadWish"), ("grip r[9] 1", "BadWish"),
                           ("grip b 1 n n", "BadGroup"), ("grip b 1 z", "BadGroup"), ("grip b 1 b", "BadGroup"), ("grip z 1 n n", "BadWish"), ("cell", "BadText"), ("row", "BadText"), ("settle x", "BadText"),
                           ("cell n = 1", "NoPlace"), ("cell c = z", "Faulty"), ("cell b = b", "Faulty"), ("cell c = r[10]", "NoFit"), ("cell c = 1 cell d = 2", "BadText"), ("cell c = $", "BadText"),
                           ("settle c from 1 to 0 start 0 = 1", "NoFit"), ("\ncell-5", "BadText"), ("row c of 1 = 1 +", "BadText"), ("cell c = place", "BadText")):
            before = [desk.say(one) for one in questions(desk.session.sheet())]
            self.assertEqual(desk.say(line), f"error {word}", line)
            self.assertEqual([desk.say(one) for one in questions(desk.session.sheet())], before)
        self.assertEqual((desk.session.done(), desk.session.undone()), (0, 0))
        self.assertEqual(desk.prices, {"m": 1, "n": 1})

    def test_what(self):
        desk = Desk(TEXT)
        for line in ("", " ", "what", "where ", " where", "where\n", "Where", "worth", "worth  b", "worth b ", "worth b b", "worth 1", "worth r[02]", "worth r[1", "worth r[1]]", "worth r[]", "worth [1]",
                     "worth r [1]", "worth r[a]", "worth r[1][1]", "worth if", "put n", "put n 1 2", "put n 01", "put n -0", "put n 1000", "put n x", "put 1 n", "put cell 1", "put r[1] 1", "range n 0",
                     "range n 0 1 2", "drop", "drop r[1]", "drop b b", "price n", "price n 1000", "price r[1] 1", "undo 1", "redo now", "text", "text r[1]", "text if", "reads", "why", "turn", "turn b x",
                     "turn b 1 1", "ask", "ask b 1", "count", "grip", "grip b", "grip b n", "grip b 1 2", "grip b 1 r[1]", "grip b 1 if", "cells", "input m from 0 to 1", "celll c = 1", "cell\t", "cell c = \u00e9",
                     "put n \u0661", "fork b", "say where", None, 5, True, b"where", ["where"], ("where",), Odd(), *odd_values()):
            self.assertEqual(desk.say(line), "what", line)

    def test_a_text_that_cannot_be_read(self):
        for thing in odd_values():
            with self.assertRaises(BadText) as caught:
                Desk(thing)
            if not isinstance(thing, str):
                self.assertEqual((caught.exception.line, caught.exception.column, caught.exception.wanted), (None, None, None))
        with self.assertRaises(BadText) as caught:
            Desk("input n from 0 to 1")
        self.assertEqual((caught.exception.line, caught.exception.column, caught.exception.wanted), (1, 20, ("cell", "input", "row", "settle")))
        with self.assertRaises(NoFit):
            Desk("input n from 1 to 0 cell a = n")
        with self.assertRaises(Faulty) as caught:
            Desk("input n from 0 to 1 cell a = z")
        self.assertEqual(caught.exception.fault, ((2, 0, 2), "unknown", "z"))

    def test_other_errors(self):
        """Beyond ranges of nine numbers and 4000 nodes a fork is refused, and the desk tells so."""
        wide = Desk("input n from 0 to 9 cell a = n")
        self.assertEqual((wide.say("count a"), wide.say("worth a")), ("error BadOrder", "0"))
        names = "abcd"
        text = "".join(f"input {name} from 0 to 8\n" for name in names) + "cell s = a * 729 + b * 81 + c * 9 + d\n"
        self.assertEqual(Desk(text).say("count s"), "error TooMany")

    def test_made_dialogues(self):
        deeds = asked = 0
        for seed in range(60):
            maker = Maker(seed)
            sheet, other = maker.sheet(4, 2, 3), maker.sheet(4, 2, 3)
            text = sheet_text(sheet)
            desk, told = Desk(text), Told(text)
            for _ in range(12):
                here, point = told.now()
                self.assertEqual(desk.say("where"), pairs_text(sorted(point.items())))
                inputs = [one[1] for one in here[1]]
                spot = maker.one_of([one for one in all_spots(here) if one not in inputs])
                name = spot_text(spot)
                word = maker.one_of(("put", "put", "edit", "edit", "undo", "redo", "price", "ask", "ask"))
                deeds += word != "ask"
                asked += word == "ask"
                if word == "put":
                    one = maker.one_of(inputs + ["z"])
                    n = maker.number(-2, 3)
                    self.assertEqual(desk.say(f"put {one} {n}"), told.deed(told.session.put, {one: n}))
                elif word == "edit":
                    edit = some_edit(maker, here, other)
                    if edit[0] in ("set", "add"):
                        cell = edit[-1]
                        edit = ("set", cell) if cell[1] in [one[1] for one in here[2]] else ("add", len(here[2]), cell)
                        line = maker.one_of(("", " ", "\n")) + cell_text(cell).replace(" ", "\n" if maker.chance(3) else " ")
                    elif edit[0] in ("drop", "range"):
                        line = " ".join(map(str, edit))
                    else:
                        continue
                    self.assertEqual(desk.say(line), told.deed(told.session.edit, [edit]))
                elif word in ("undo", "redo"):
                    try:
                        told.session.undo() if word == "undo" else told.session.redo()
                        wanted = "ok"
                    except SheetError as error:
                        wanted = f"error {type(error).__name__}"
                    self.assertEqual(desk.say(word), wanted)
                elif word == "price":
                    one, n = maker.one_of(inputs), maker.number(1, 4)
                    told.prices[one] = n
                    self.assertEqual(desk.say(f"price {one} {n}"), "ok")
                else:
                    worth_now = worth(here, point, spot)
                    self.assertEqual(desk.say(f"worth {name}"), worth_text(worth_now))
                    self.assertEqual(desk.say(f"reads {name}"), told_list(map(spot_text, reads(here, spot))))
                    self.assertEqual(desk.say(f"why {name}"), told.why(spot))
                    self.assertEqual(desk.say(f"turn {name}"), told.turn(told.wish(spot)))
                    n = worth(here, maker.one_of(all_points(here)), spot)
                    if n is not None and -999 <= n <= 999:
                        wanted = "error NowSo" if n == worth_now else told.turn([(spot, (n,), True)])
                        self.assertEqual(desk.say(f"turn {name} {n}"), wanted)
                        group = [one for one in inputs if maker.chance(2)]
                        wanted = is_grip(here, tuple(sorted(inputs)), (spot, (n,), True), tuple(sorted(group)))
                        self.assertEqual(desk.say(" ".join([f"grip {name} {n}"] + maker.shuffled(group))), "yes" if wanted else "no")
                    self.assertEqual(desk.say(f"ask {name}"), str(best_scheme(here, whole(here), spot, told.prices, None)[0]))
                    self.assertEqual(desk.say(f"count {name}"), told.count(spot))
        self.assertGreater(min(deeds, asked), 100)

    def test_whatever_was_said_before(self):
        """Two desks with equal sheets, points and prices answer all questions alike."""
        for seed in range(15):
            maker = Maker(seed)
            sheet = maker.sheet(4, 2, 3)
            one, other = Desk(sheet_text(sheet)), Desk(sheet_text(sheet))
            point = maker.point(sheet)
            for name, n in point.items():
                one.say(f"put {name} {n}")
                one.say(f"price {name} {n + 3}")
            for _ in range(4):
                other.say(maker.one_of(("cell zz = 1", "undo", "drop zz", "cell yy = 2", "redo")))
            while other.session.done():
                other.say("undo")
            for name, n in point.items():
                other.say(f"put {name} {n}")
                other.say(f"price {name} {n + 3}")
            for line in questions(sheet):
                self.assertEqual(one.say(line), other.say(line), line)


if __name__ == "__main__":
    unittest.main()
