"""Links to nodes of a book, as bits tell them: which choices they have, and the codes of numbers.

The nodes of a book are those of a store, in the order in which they are finished; the
places of an order are the levels of the store.
"""

from whysheets.nodes import Store, size_at


def short_code(number, many):
    """The list of the bits of a number in short code among so many."""
    count, few = code_sizes(many)
    return binary(number, count) if number < few else binary(number + few, count + 1)


def code_sizes(many):
    """How many bits the shorter codes among so many have, and how many numbers have them."""
    count = many.bit_length() - 1
    return count, (1 << (count + 1)) - many


def long_code(number):
    """The list of the bits of a number in long code."""
    count = (number + 1).bit_length()
    return [0] * (count - 1) + binary(number + 1, count)


def binary(number, count):
    """The list of so many binary digits of a number."""
    return [(number >> k) & 1 for k in range(count - 1, -1, -1)]


def worth_number(worth):
    """The number of a worth, counted from 0, in the sequence None, 0, 1, -1, 2, -2, .."""
    if worth is None:
        return 0
    return 2 * worth if worth > 0 else 1 - 2 * worth


def worth_numbered(number):
    """The worth with a number."""
    if number == 0:
        return None
    return number // 2 if number % 2 == 0 else -(number // 2)


class Linking:
    """The finished nodes of a book, and the choices that links have by them."""

    def __init__(self, order):
        self.order = order
        self.store = Store(order)
        self.places = [level for level in range(len(order)) if size_at(order, level) > 1]
        # For each level, -1 first, the finished nodes of deeper levels, and the index of each among them.
        self.deeper = [[] for _ in range(len(order) + 1)]
        self.ranks = [{} for _ in range(len(order) + 1)]
        # For each level and all children but the last one of finished questions the list of the last ones.
        self.lasts = {}
        # The numbers of the worths of finished leaves.
        self.used = []

    def copied(self):
        """Another one with the same finished nodes."""
        other = Linking(self.order)
        store = other.store
        store.levels = list(self.store.levels)
        store.bodies = list(self.store.bodies)
        store.numbers = {key: self.store.numbers[key] for key in self.store.numbers}
        other.deeper = [list(row) for row in self.deeper]
        other.ranks = [{number: row[number] for number in row} for row in self.ranks]
        other.lasts = {key: list(self.lasts[key]) for key in self.lasts}
        other.used = list(self.used)
        return other

    def finish_leaf(self, worth):
        """The number of a new leaf."""
        self.used.append(worth_number(worth))
        return self.finish(self.store.leaf(worth))

    def finish_question(self, level, children):
        """The number of a new question."""
        self.lasts.setdefault((level, tuple(children[:-1])), []).append(children[-1])
        return self.finish(self.store.question(level, tuple(children)))

    def finish(self, number):
        """Counts a new node among those of deeper levels."""
        for below in range(-1, self.store.levels[number]):
            self.ranks[below + 1][number] = len(self.deeper[below + 1])
            self.deeper[below + 1].append(number)
        return number

    def new_places(self, below):
        """The list of the levels for which a new question below a level may ask."""
        return [level for level in self.places if level > below]

    def barred(self, below, children):
        """The ascending list of the indexes of deeper nodes that cannot follow some children of a question, or None."""
        if children is None or len(children) < size_at(self.order, below) - 1:
            return []
        found = list(self.lasts.get((below, tuple(children)), []))
        if all([child == children[0] for child in children]):
            found.append(children[0])
        return sorted([self.ranks[below + 1][number] for number in found])

    def count_choices(self, below, children):
        """How many choices a link has below a level, behind some children of the question that has it, or None."""
        barred = self.barred(below, children)
        return 1 + len(self.new_places(below)) + len(self.deeper[below + 1]) - len(barred)

    def choice_of_node(self, below, children, number):
        """The number of the choice of a finished node."""
        rank = self.ranks[below + 1][number]
        fewer = [one for one in self.barred(below, children) if one < rank]
        return 1 + len(self.new_places(below)) + rank - len(fewer)

    def node_chosen(self, below, children, choice):
        """The finished node of the number of a choice."""
        rank = choice - 1 - len(self.new_places(below))
        for one in self.barred(below, children):
            if one <= rank:
                rank += 1
        return self.deeper[below + 1][rank]

    def leaf_code(self, worth):
        """The bits behind the choice of a new leaf."""
        number = worth_number(worth)
        return long_code(number - len([one for one in self.used if one < number]))

    def leaf_worth(self, number):
        """The worth with a number among those that no finished leaf has."""
        for one in sorted(self.used):
            if one <= number:
                number += 1
        return worth_numbered(number)

    def worth_at(self, number, indexes):
        """The worth of a finished node at the indexes of a point."""
        for level, at in enumerate(indexes):
            number = self.store.child(number, level, at)
        return self.store.worth_of(number)
