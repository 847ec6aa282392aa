"""Books as bits, of which none is wasted."""

from whysheets.books import are_spots, is_book
from whysheets.errors import BadBook, BadOrder, BadSpots
from whysheets.feeding import fed, fed_to_end, ones_to_end
from whysheets.forks import is_order
from whysheets.linking import Linking, short_code
from whysheets.nodes import Store, stored, written
from whysheets.values import is_list


class Packing:
    """Writes the links of the pages of a book."""

    def __init__(self, order):
        self.store = Store(order)
        self.linking = Linking(order)
        # The numbers that finished nodes have in the book, by their numbers in the store.
        self.places = {}
        self.bits = []

    def write_link(self, number, below, children):
        """Writes a link to a node below a level, behind some children of the question that has it, or None."""
        many = self.linking.count_choices(below, children)
        if number in self.places:
            choice = self.linking.choice_of_node(below, children, self.places[number])
            self.bits.extend(short_code(choice, many))
        elif self.store.is_leaf(number):
            self.bits.extend(short_code(0, many))
            self.bits.extend(self.linking.leaf_code(self.store.worth_of(number)))
            self.places[number] = self.linking.finish_leaf(self.store.worth_of(number))
        else:
            level = self.store.levels[number]
            self.bits.extend(short_code(1 + self.linking.new_places(below).index(level), many))
            self.write_question(number, level)

    def write_question(self, number, level):
        """Writes the links to all children of a new question."""
        children = []
        for child in self.store.bodies[number]:
            self.write_link(child, level, children)
            children.append(self.places[child])
        self.places[number] = self.linking.finish_question(level, children)


def pack(book):
    """The bits of a book."""
    if not is_book(book):
        raise BadBook("no book")
    packing = Packing(book[1])
    for _, fork in book[2]:
        packing.write_link(stored(packing.store, fork), -1, None)
    return packing.bits


def unpack(order, spots, bits):
    """The book with these spots that has these bits."""
    want_spots(order, spots)
    feeding = fed_to_end(order, len(spots), bits)
    forks = [written(feeding.linking.store, number, order) for number in feeding.pages]
    return ("book", order, tuple([(spots[k], fork) for k, fork in enumerate(forks)]))


def want_spots(order, spots):
    """Raises BadOrder for what is no order, then BadSpots for what is no list of spots of pages."""
    if not is_order(order):
        raise BadOrder("no order")
    if not is_list(spots) or not are_spots(list(spots)):
        raise BadSpots("no list of 1 to 400 spots")


def filled(order, spots, bits):
    """The bits of a book that begin with some bits and go on with 1s."""
    want_spots(order, spots)
    feeding = fed(order, len(spots), bits)
    return list(bits) + [1] * ones_to_end(feeding)
