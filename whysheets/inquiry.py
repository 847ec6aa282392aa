"""Inquiries: asking question by question for the worth of a spot."""

from whysheets.boxes import want_prices, whole_of
from whysheets.costing import Asking
from whysheets.errors import BadAnswer, BadQuestion, NotKnown, NothingAsked
from whysheets.questioning import answers_of, box_behind, is_answer, is_question, question_price, want_sides
from whysheets.tables import Table
from whysheets.wanting import sound_frame, want_cell_spot


class Inquiry:
    """Begins with the box of all points, and nothing told."""

    def __init__(self, sheet, spot, prices, sides):
        frame = sound_frame(sheet)
        want_cell_spot(frame, spot)
        want_prices(frame, prices)
        want_sides(frame, sides)
        self.prices = {name: prices[name] for name in prices}
        self.sides = None if sides is None else {name: sides[name] for name in sides}
        box = whole_of(frame)
        self.asking = Asking(Table(frame, (spot,)), box, self.prices, self.sides)
        # The boxes from the first one to the present one, and their nodes.
        self.boxes = [box]
        self.numbers = [self.asking.first]
        self.pairs = []

    def ask(self, question, answer):
        """The present box becomes the one behind an answer."""
        self.want_question(question)
        box = self.boxes[-1]
        if not is_answer(box, question, answer):
            raise BadAnswer("no answer of the question")
        parts = self.asking.behind_all(self.numbers[-1], box, question)
        at = answers_of(box, question).index(answer)
        self.boxes.append(box_behind(box, question, answer))
        self.numbers.append(parts[at])
        self.pairs.append((question, answer))

    def want_question(self, question):
        """Raises BadQuestion for what is no question over the present box."""
        if not is_question(self.boxes[-1], self.sides is not None, question):
            raise BadQuestion("no question over the present box")

    def undo(self):
        """Takes the last answer back."""
        if not self.pairs:
            raise NothingAsked("nothing is told")
        self.boxes.pop()
        self.numbers.pop()
        self.pairs.pop()

    def box(self):
        """The present box."""
        here = self.boxes[-1]
        return {name: here[name] for name in here}

    def told(self):
        """The tuple of the pairs of question and answer."""
        return tuple(self.pairs)

    def spent(self):
        """The sum of the prices of the questions that were asked."""
        return sum([question_price(question, self.prices, self.sides) for question, _ in self.pairs])

    def left(self):
        """The price of asking over the present box."""
        return self.asking.asking_price(self.numbers[-1])

    def cost(self, question):
        """The price of a question, and the greatest price of asking behind its answers."""
        self.want_question(question)
        parts = self.asking.behind_all(self.numbers[-1], self.boxes[-1], question)
        own = question_price(question, self.prices, self.sides)
        return own + max([self.asking.asking_price(part) for part in parts])

    def next_question(self):
        """A question with the least cost; None if the worth is known."""
        if self.is_known():
            return None
        _, level, many = self.asking.best(self.numbers[-1])
        name = self.asking.names[level]
        return ("number", name) if many == 0 else ("atmost", name, self.boxes[-1][name][many - 1])

    def is_known(self):
        """Whether the worth is the same at all points in the present box."""
        return self.asking.store.is_leaf(self.numbers[-1])

    def worth(self):
        """The worth that is known."""
        if not self.is_known():
            raise NotKnown("the worth is not known yet")
        return self.asking.store.worth_of(self.numbers[-1])
