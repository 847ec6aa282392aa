"""Questions about a point of a box, and their answers."""

from whysheets.boxes import are_prices, want_box, want_prices, with_number
from whysheets.errors import BadSides
from whysheets.values import is_number
from whysheets.wanting import sound_frame, want_cell_spot

NUMBER = "number"
ATMOST = "atmost"


def is_question(box, lets_atmost, thing):
    """Whether any value is a question over a box; atmost is let or not."""
    if not isinstance(thing, tuple) or len(thing) < 2 or not all([isinstance(word, str) for word in thing[:2]]):
        return False
    if thing[1] not in box or len(box[thing[1]]) < 2:
        return False
    if thing[0] == NUMBER:
        return len(thing) == 2
    if thing[0] != ATMOST or not lets_atmost or len(thing) != 3:
        return False
    return is_number(thing[2]) and thing[2] in box[thing[1]][:-1]


def all_questions(box, lets_atmost):
    """The list of all questions over a box."""
    found = []
    for name in sorted(box):
        if len(box[name]) > 1:
            found.append((NUMBER, name))
            if lets_atmost:
                found.extend([(ATMOST, name, number) for number in box[name][:-1]])
    return found


def answers_of(box, question):
    """The list of the answers of a question over a box, in order."""
    return list(box[question[1]]) if question[0] == NUMBER else [True, False]


def is_answer(box, question, thing):
    """Whether any value is an answer of a question over a box."""
    if question[0] == ATMOST:
        return isinstance(thing, bool)
    return is_number(thing) and thing in box[question[1]]


def box_behind(box, question, answer):
    """The box behind an answer of a question."""
    name = question[1]
    if question[0] == NUMBER:
        return with_number(box, name, (answer,))
    return with_number(box, name, tuple([number for number in box[name] if (number <= question[2]) == answer]))


def answer_at(question, point):
    """The answer of a question at a point."""
    number = point[question[1]]
    return number if question[0] == NUMBER else number <= question[2]


def question_price(question, prices, sides):
    """The price of a question."""
    return prices[question[1]] if question[0] == NUMBER else sides[question[1]]


def want_sides(frame, sides):
    """Raises BadSides for what is neither None nor prices."""
    if sides is not None and not are_prices(frame.sheet[1], sides):
        raise BadSides("neither None nor prices of the inputs")


def wanted_frame(sheet, box, spot, prices, sides):
    """The frame of a sheet; BadSheet, Faulty, BadBox, BadSpot, BadPrices, BadSides."""
    frame = sound_frame(sheet)
    want_box(frame, box)
    want_cell_spot(frame, spot)
    want_prices(frame, prices)
    want_sides(frame, sides)
    return frame
