"""A machine that sees bits alone and answers as the package does."""

from whysheets.books import MOST_PAGES
from whysheets.errors import BadBit, BadMany, BadOrder, BadPoint, BadQuestion, Ended
from whysheets.feeding import Feeding, fed_to_end, is_bit
from whysheets.forks import is_order
from whysheets.replies import Replies, is_machine_question, page_shut
from whysheets.tallies import is_order_point
from whysheets.values import is_number_from


class Machine:
    """Reads the bits of a book of so many pages, one by one, and answers a question of each page."""

    def __init__(self, order, many, question):
        want_pages(order, many)
        if not is_machine_question(order, question):
            raise BadQuestion("no question")
        self.feeding = Feeding(order, many)
        self.replies = Replies(self.feeding.linking.store, question)

    def feed(self, bit):
        """Reads a bit."""
        if not is_bit(bit):
            raise BadBit("neither 0 nor 1")
        if self.done():
            raise Ended("all pages are finished")
        self.feeding.take(bit)

    def done(self):
        """Whether all pages are finished."""
        return self.feeding.is_done()

    def answers(self):
        """The tuple of the answers of the pages that are finished."""
        return tuple([self.replies.reply(number) for number in self.feeding.pages])

    def depth(self):
        """How many questions have been begun and not been finished."""
        return len(self.feeding.begun)

    def finished(self):
        """How many nodes are finished."""
        return len(self.feeding.linking.store.levels)


def want_pages(order, many):
    """Raises BadOrder for what is no order, then BadMany for what is no number of pages."""
    if not is_order(order):
        raise BadOrder("no order")
    if not is_number_from(many, 1, MOST_PAGES):
        raise BadMany("no number from 1 to 400")


def read(order, many, question, bits):
    """The tuple of the answers of all pages of a book."""
    want_pages(order, many)
    if not is_machine_question(order, question):
        raise BadQuestion("no question")
    feeding = fed_to_end(order, many, bits)
    replies = Replies(feeding.linking.store, question)
    return tuple([replies.reply(number) for number in feeding.pages])


def walls_from(order, many, bits, point):
    """The tuple with a wall at a point for each page of a book."""
    want_pages(order, many)
    feeding = fed_to_end(order, many, bits)
    if not is_order_point(order, point):
        raise BadPoint("no point of the order")
    indexes = [point[name] - low for name, low, _ in order]
    return tuple([page_shut(feeding.linking.store, number, indexes) for number in feeding.pages])
