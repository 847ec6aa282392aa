"""Books and their bits told once more: nodes by all their worths, choices as explicit lists."""

from itertools import product

from tests.making import Maker, order_points, worth_table
from whysheets.forks import fork_from

XY = (("x", 0, 2), ("y", 0, 2))
LEAST = fork_from(XY, [min(x, y) for x in range(3) for y in range(3)])
BOOK = ("book", XY, (("c", LEAST),))
BITS = [int(sign) for sign in "10 0 010 10 1 0 010 11 01 10 11 0 011".replace(" ", "")]


def short(k, m):
    b = 0
    while 2 ** (b + 1) <= m:
        b += 1
    u = 2 ** (b + 1) - m
    if k < u:
        return digits(k, b)
    return digits(k + u, b + 1)


def digits(k, count):
    return [int(sign) for sign in format(k, "b").zfill(count)] if count else []


def long(k):
    text = format(k + 1, "b")
    return [0] * (len(text) - 1) + [int(sign) for sign in text]


def worth_sequence(most):
    found = [None, 0]
    for n in range(1, most + 1):
        found += [n, -n]
    return found


class Packer:
    """Writes links; a node is the tuple of its worths at all points of the order."""

    def __init__(self, order):
        self.order = order
        self.points = order_points(order)
        self.finished = []
        self.bits = []

    def place(self, node):
        """The place of the name that a node asks for; None of a leaf."""
        for level in range(len(self.order)):
            if any(self.child(node, level, at) != node for at in range(self.size(level))):
                return level
        return None

    def size(self, level):
        return self.order[level][2] - self.order[level][1] + 1

    def child(self, node, level, at):
        worths = dict(zip(self.points, node))
        number = self.order[level][1] + at
        return tuple(worths[point[:level] + (number,) + point[level + 1:]] for point in self.points)

    def children(self, node):
        level = self.place(node)
        return [self.child(node, level, at) for at in range(self.size(level))]

    def choices(self, below, ahead):
        """All choices of a link; ahead has the children that its question has so far, None for a page."""
        found = ["leaf"] + [level for level in range(below + 1, len(self.order)) if self.size(level) > 1]
        for node in self.finished:
            place = self.place(node)
            if place is not None and place <= below:
                continue
            if ahead is not None and len(ahead) == self.size(below) - 1:
                children = ahead + [node]
                if all(child == node for child in children):
                    continue
                if any(self.place(one) == below and self.children(one) == children for one in self.finished):
                    continue
            found.append(node)
        return found

    def link(self, node, below, ahead):
        choices = self.choices(below, ahead)
        if node in self.finished:
            self.bits += short(choices.index(node), len(choices))
            return
        place = self.place(node)
        if place is None:
            self.bits += short(0, len(choices))
            used = [one[0] for one in self.finished if self.place(one) is None]
            left = [worth for worth in worth_sequence(abs(node[0] or 0) + 1) if worth not in used]
            self.bits += long(left.index(node[0]))
        else:
            self.bits += short(choices.index(place), len(choices))
            children = self.children(node)
            for k, child in enumerate(children):
                self.link(child, place, children[:k])
        self.finished.append(node)


def bits_of(book):
    packer = Packer(book[1])
    for _, fork in book[2]:
        packer.link(tuple(worth_table(fork).values()), -1, None)
    return packer.bits


def made_book(seed, names=3, widest=3, pages=3):
    """A maker and a book with pages that have much in common."""
    maker = Maker(seed * 7919 + 29)
    order = tuple((name, low, low + maker.number(0, widest - 1)) for name, low in zip(maker.shuffled("stuvw")[:maker.number(0, names)], (-1, 0, 2, -3, 1)))
    points = order_points(order)
    tables = []
    for _ in range(maker.number(1, pages)):
        if tables and maker.chance(3):
            tables.append([one if one is None or maker.chance(2) else one + maker.number(0, 1) for one in tables[-1]])
        elif maker.chance(2):
            tables.append(maker.worths(order, maker.number(2, 5)))
        else:
            tables.append([maker.one_of((0, 1, None, -1)) for _ in points])
    spots = sorted(maker.shuffled(["p", "q", "r", "aa"])[:maker.number(0, len(tables))])
    spots += sorted(maker.shuffled([("r", 1), ("r", 2), ("a", 9), ("q", 3)])[:len(tables) - len(spots)])
    return maker, ("book", order, tuple((spot, fork_from(order, table)) for spot, table in zip(spots, tables)))


def spots_of(book):
    return [spot for spot, _ in book[2]]


def some_point(maker, order):
    return {name: maker.number(low, high) for name, low, high in maker.shuffled(order)}


def all_bits(most):
    for count in range(most + 1):
        for bits in product((0, 1), repeat=count):
            yield list(bits)


def bad_orders():
    return [(("x", 0, 9),), (("x", 0, 1),) * 2, [("x", 0, 1)], (("x", 0, True),), (("if", 0, 1),), (("x", 1, 0),), tuple((name, 0, 1) for name in "abcdefgh")]


def bad_spots():
    return [[], (), ["b", "a"], ["a", "a"], [("r", 1), "a"], [("r", 2), ("r", 1)], [("r", 0)], [("r", 10)], [("r", True)], [["r", 1]], ["if"], ["A"], [None], "a", {"a": 1},
            [("r", 1, 1)], [("r",)], ["a"] * 401]
