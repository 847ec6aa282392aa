"""Reading the bits of a book, one by one."""

from whysheets.errors import BadBits
from whysheets.linking import Linking, code_sizes, short_code
from whysheets.nodes import size_at
from whysheets.values import is_list, is_number_from


class Feeding:
    """How far the bits of a book of so many pages have been read.

    A link is read bit by bit: value has its bits so far, count tells how many they are. Behind
    the choice of a new leaf in_leaf is True, and value is 0 as long as only zeros have come.
    """

    def __init__(self, order, many):
        self.order = order
        self.many = many
        self.linking = Linking(order)
        # The questions that are begun and not finished: pairs of a level and a list of children.
        self.begun = []
        self.pages = []
        self.begin_link()

    def copied(self):
        """Another one that has read the same bits."""
        other = Feeding(self.order, self.many)
        other.linking = self.linking.copied()
        other.begun = [(level, list(children)) for level, children in self.begun]
        other.pages = list(self.pages)
        other.in_leaf = self.in_leaf
        other.value = self.value
        other.count = self.count
        other.choices = self.choices
        return other

    def is_done(self):
        """Whether all pages are finished."""
        return len(self.pages) == self.many

    def is_fresh(self):
        """Whether none of the bits of the present link or new leaf has been read."""
        return self.count == 0

    def below(self):
        """The level below which the present link stands."""
        return self.begun[-1][0] if self.begun else -1

    def children(self):
        """The children ahead of the present link; None for the link of a page."""
        return self.begun[-1][1] if self.begun else None

    def begin_link(self):
        """A link comes next; one with a single choice has no bits."""
        self.in_leaf = False
        self.value = 0
        self.count = 0
        self.choices = self.linking.count_choices(self.below(), self.children())
        if self.choices == 1:
            self.choose(0)

    def take(self, bit):
        """Reads a bit."""
        self.count += 1
        if self.in_leaf:
            self.take_of_leaf(bit)
            return
        self.value = 2 * self.value + bit
        count, few = code_sizes(self.choices)
        if self.count == count and self.value < few:
            self.choose(self.value)
        elif self.count > count:
            self.choose(self.value - few)

    def take_of_leaf(self, bit):
        """Reads a bit of the number of a new leaf's worth; it has one 0 less than there are digits."""
        self.value = 2 * self.value + bit
        if self.count == 2 * self.zeros() + 1:
            self.deliver(self.linking.finish_leaf(self.linking.leaf_worth(self.value - 1)))

    def zeros(self):
        """How many zeros stand ahead of the digits of a new leaf's number."""
        return self.count - self.value.bit_length()

    def choose(self, choice):
        """A link's choice is read."""
        levels = self.linking.new_places(self.below())
        if choice == 0:
            self.in_leaf = True
            self.value = 0
            self.count = 0
        elif choice <= len(levels):
            self.begun.append((levels[choice - 1], []))
            self.begin_link()
        else:
            self.deliver(self.linking.node_chosen(self.below(), self.children(), choice))

    def deliver(self, number):
        """A link leads to a node; with its last child a question is finished."""
        while self.begun:
            level, children = self.begun[-1]
            children.append(number)
            if len(children) < size_at(self.order, level):
                self.begin_link()
                return
            self.begun.pop()
            number = self.linking.finish_question(level, children)
        self.pages.append(number)
        if not self.is_done():
            self.begin_link()


def is_bit(thing):
    """Whether any value is the number 0 or the number 1."""
    return is_number_from(thing, 0, 1)


def fed(order, many, bits):
    """The feeding that has read bits; BadBits for no list and for the first one that cannot stand."""
    if not is_list(bits):
        raise BadBits(None)
    feeding = Feeding(order, many)
    for at, bit in enumerate(bits):
        if feeding.is_done() or not is_bit(bit):
            raise BadBits(at)
        feeding.take(bit)
    return feeding


def fed_to_end(order, many, bits):
    """The feeding that has read all bits of a book; BadBits also where they end too early."""
    feeding = fed(order, many, bits)
    if not feeding.is_done():
        raise BadBits(len(bits))
    return feeding


def ones_to_end(feeding):
    """How many 1s finish all pages."""
    other = feeding.copied()
    count = 0
    while not other.is_done():
        if other.is_fresh() and not other.in_leaf and not other.begun and other.linking.deeper[0]:
            # The last choice of a page's link is the last finished node, which changes nothing for the next one.
            last = short_code(other.choices - 1, other.choices)
            return count + len(last) * (other.many - len(other.pages))
        other.take(1)
        count += 1
    return count
