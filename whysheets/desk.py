"""A desk: a sheet at a point, to which one speaks line by line."""

from whysheets.boxes import whole_of
from whysheets.costing import Asking
from whysheets.counts import counted
from whysheets.errors import BadEdits, BadGroup, BadName, BadNumbers, BadOrder, BadPrices, BadSpot, BadText, BadWish
from whysheets.errors import BadWishes, Faulty, NoFit, NoPlace, NothingDone, NothingUndone, NowSo, TooMany
from whysheets.grips import is_grip
from whysheets.making import fork_of
from whysheets.moving import all_moves
from whysheets.names import reads
from whysheets.nearest import nearest
from whysheets.questioning import wanted_frame
from whysheets.saying import knot_said, list_said, pairs_said, spot_said, words_said, worth_said
from whysheets.sessions import Session
from whysheets.tables import Table
from whysheets.texts import read_cell, read_sheet
from whysheets.turns import box_beside, wall_within
from whysheets.values import is_number_from
from whysheets.wanting import sound_frame
from whysheets.words import is_text, split_words
from whysheets.writing import cell_words, text_of

GREATEST_PRICE = 999
CELL_WORDS = ("cell", "row", "settle")
WHAT = "what"


class Desk:
    """Begins with the sheet of a text, at the point of the least numbers, and prices of 1."""

    def __init__(self, text):
        sheet = sound_frame(read_sheet(text)).sheet
        self.session = Session(sheet, {name: low for _, name, low, _ in sheet[1]})
        self.prices = {name: 1 for name in sorted([thing[1] for thing in sheet[1]])}

    def say(self, line):
        """The answer to any value; an error is told by the name of its class."""
        try:
            return answer_to(self, line)
        except BadEdits:
            return "error BadEdits"
        except BadGroup:
            return "error BadGroup"
        except BadName:
            return "error BadName"
        except BadNumbers:
            return "error BadNumbers"
        except BadOrder:
            return "error BadOrder"
        except BadPrices:
            return "error BadPrices"
        except BadSpot:
            return "error BadSpot"
        except BadText:
            return "error BadText"
        except BadWish:
            return "error BadWish"
        except BadWishes:
            return "error BadWishes"
        except Faulty:
            return "error Faulty"
        except NoFit:
            return "error NoFit"
        except NoPlace:
            return "error NoPlace"
        except NothingDone:
            return "error NothingDone"
        except NothingUndone:
            return "error NothingUndone"
        except NowSo:
            return "error NowSo"
        except TooMany:
            return "error TooMany"


def answer_to(desk, line):
    """The answer to any value that is no error."""
    if not is_text(line):
        return WHAT
    words = split_words(line)
    if words and words[0][0] in CELL_WORDS:
        return say_cell(desk, line)
    found = words_said(line)
    if found is None:
        return WHAT
    action = ACTIONS[found[0]]
    return action(desk, found[1:])


def say_cell(desk, text):
    """Sets the cell of a text, or adds it behind all others."""
    cell = read_cell(text)
    cells = desk.session.sheet()[2]
    if cell[1] in [one[1] for one in cells]:
        return knots_told(desk.session.edit([("set", cell)]))
    return knots_told(desk.session.edit([("add", len(cells), cell)]))


def knots_told(knots):
    """The list of the knots that are worked out anew."""
    return list_said([knot_said(knot) for knot in knots])


def say_put(desk, told):
    """Gives an input a number."""
    return knots_told(desk.session.put({told[0]: told[1]}))


def say_range(desk, told):
    """Gives an input a range."""
    return knots_told(desk.session.edit([("range", told[0], told[1], told[2])]))


def say_drop(desk, told):
    """Drops a cell."""
    return knots_told(desk.session.edit([("drop", told[0])]))


def say_price(desk, told):
    """Gives an input a price."""
    if told[0] not in desk.prices:
        raise BadName("no name of an input")
    if not is_number_from(told[1], 1, GREATEST_PRICE):
        raise BadPrices("no number from 1 to 999")
    desk.prices[told[0]] = told[1]
    return "ok"


def say_undo(desk, told):
    """Goes back ahead of the last put or edit."""
    desk.session.undo()
    return "ok"


def say_redo(desk, told):
    """Takes back the last undo."""
    desk.session.redo()
    return "ok"


def say_where(desk, told):
    """The point."""
    return pairs_said(list(desk.session.point().items()))


def say_worth(desk, told):
    """The worth of a spot."""
    return worth_said(desk.session.worth(told[0]))


def say_text(desk, told):
    """The line of an input or a cell."""
    sheet = desk.session.sheet()
    for thing in sheet[1] + sheet[2]:
        if thing[1] == told[0]:
            return text_of(cell_words(thing))
    raise BadName("the name of nothing")


def say_reads(desk, told):
    """The spots that a spot reads."""
    return list_said([spot_said(spot) for spot in reads(desk.session.sheet(), told[0])])


def wish_for_another(desk, spot):
    """The list of the wish that a spot has another worth than now."""
    return [(spot, (desk.session.worth(spot),), False)]


def say_why(desk, told):
    """What alone forces the worth of a spot."""
    wishes = wish_for_another(desk, told[0])
    sheet = desk.session.sheet()
    point = desk.session.point()
    frame = sound_frame(sheet)
    box = box_beside(sheet, point, wall_within(sheet, point, wishes, tuple(all_moves(frame, point))))
    full = whole_of(frame)
    found = []
    for name in box:
        if box[name] != full[name]:
            found.append(list_said([name] + [str(number) for number in box[name]]))
    return list_said(found)


def say_turn(desk, told):
    """The nearest turn of the worth of a spot."""
    wishes = wish_for_another(desk, told[0]) if len(told) == 1 else [(told[0], (told[1],), True)]
    found = nearest(desk.session.sheet(), desk.session.point(), wishes, desk.prices)
    return "none" if found is None else str(found[0]) + " " + pairs_said(found[1])


def say_ask(desk, told):
    """The price of asking for a spot."""
    sheet = desk.session.sheet()
    box = whole_of(sound_frame(sheet))
    frame = wanted_frame(sheet, box, told[0], desk.prices, None)
    asking = Asking(Table(frame, (told[0],)), box, desk.prices, None)
    return str(asking.asking_price(asking.first))


def say_count(desk, told):
    """The worths of a spot and how many points have each."""
    inputs = desk.session.sheet()[1]
    fork = fork_of(desk.session.sheet(), told[0], tuple([thing[1:] for thing in inputs]))
    found = counted(fork, {name: (1,) * (high - low + 1) for _, name, low, high in inputs})
    return list_said([worth_said(worth) + " " + str(found[worth]) for worth in found])


def say_grip(desk, told):
    """Whether some inputs are a grip for a worth of a spot."""
    sheet = desk.session.sheet()
    names = tuple(sorted([thing[1] for thing in sheet[1]]))
    return "yes" if is_grip(sheet, names, (told[0], (told[1],), True), tuple(sorted(told[2:]))) else "no"


ACTIONS = {
    "put": say_put, "range": say_range, "drop": say_drop, "price": say_price, "undo": say_undo, "redo": say_redo,
    "where": say_where, "worth": say_worth, "text": say_text, "reads": say_reads, "why": say_why, "turn": say_turn,
    "ask": say_ask, "count": say_count, "grip": say_grip,
}
