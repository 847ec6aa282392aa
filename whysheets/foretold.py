"""What the first bits of a book tell of the worths at a point."""

from whysheets.bits import want_spots
from whysheets.errors import BadPoint
from whysheets.feeding import fed, ones_to_end
from whysheets.linking import code_sizes, short_code
from whysheets.tallies import is_order_point


def foretold(order, spots, bits, point):
    """For each page its worth at a point, or two lists of bits behind which the worths are different."""
    want_spots(order, spots)
    feeding = fed(order, len(spots), bits)
    if not is_order_point(order, point):
        raise BadPoint("no point of the order")
    indexes = tuple([point[name] - low for name, low, _ in order])
    found = [("known", feeding.linking.worth_at(number, indexes)) for number in feeding.pages]
    if feeding.is_done():
        return tuple(found)
    found.append(told_of_page(feeding, indexes))
    ahead = feeding.copied()
    begin = []
    for page in range(len(feeding.pages) + 1, len(spots)):
        begin = begin + go_on_until(ahead, page, 0, 0)
        found.append(two_leaves(ahead, begin))
    return tuple(found)


def told_of_page(feeding, indexes):
    """What is told of the page whose link is being read."""
    for depth, (level, children) in enumerate(feeding.begun):
        at = indexes[level]
        if at < len(children):
            return ("known", feeding.linking.worth_at(children[at], indexes))
        if at > len(children):
            ahead = feeding.copied()
            begin = go_on_until(ahead, len(feeding.pages), depth + 1, at)
            return two_leaves(ahead, begin)
    return parted_by_leaf(feeding, [], []) if feeding.in_leaf else told_of_link(feeding, indexes)


def go_on_until(ahead, page, depth, at):
    """Reads 1s until the link of a page, or of a child of its question at a depth, comes next; the list of the 1s."""
    found = []
    while not is_next(ahead, page, depth, at):
        ahead.take(1)
        found.append(1)
    return found


def is_next(ahead, page, depth, at):
    """Whether no bit of this link has been read, and all those ahead of it have."""
    if len(ahead.pages) != page or len(ahead.begun) != depth or not ahead.is_fresh():
        return False
    return depth == 0 or len(ahead.begun[-1][1]) == at


def two_leaves(ahead, begin):
    """The pair of lists of bits with two new leaves at the link that comes next."""
    choice = [] if ahead.in_leaf else short_code(0, ahead.choices)
    return parted_by_leaf(ahead, begin, choice)


def parted_by_leaf(feeding, begin, choice):
    """Two new leaves: whichever bit comes next of a new leaf's number, it leads to other worths than the other one."""
    return parted(feeding, begin, choice + [0], choice + [1])


def parted(feeding, begin, one, other):
    """What tells that two ways to go on part the worths; both are finished by 1s."""
    return ("parted", begin + finished_by_ones(feeding, one), begin + finished_by_ones(feeding, other))


def finished_by_ones(feeding, more):
    """Some bits with the 1s that finish all pages behind them."""
    ahead = feeding.copied()
    for bit in more:
        ahead.take(bit)
    return more + [1] * ones_to_end(ahead)


def told_of_link(feeding, indexes):
    """What is told where the link that counts is being read."""
    first, last = open_choices(feeding)
    places = len(feeding.linking.new_places(feeding.below()))
    if first == 0:
        return parted_by_leaf(feeding, [], rest_of_code(feeding, 0))
    if first <= places:
        return told_of_question(feeding, first, indexes)
    worths = []
    for choice in range(first, last + 1):
        number = feeding.linking.node_chosen(feeding.below(), feeding.children(), choice)
        worths.append(feeding.linking.worth_at(number, indexes))
    others = [k for k, worth in enumerate(worths) if worth != worths[0]]
    if not others:
        return ("known", worths[0])
    return parted(feeding, [], rest_of_code(feeding, first), rest_of_code(feeding, first + others[0]))


def told_of_question(feeding, choice, indexes):
    """Two new leaves at the child that counts of a new question."""
    ahead = feeding.copied()
    begin = rest_of_code(feeding, choice)
    for bit in begin:
        ahead.take(bit)
    depth = len(feeding.begun) + 1
    more = go_on_until(ahead, len(feeding.pages), depth, indexes[ahead.begun[depth - 1][0]])
    return two_leaves(ahead, begin + more)


def rest_of_code(feeding, choice):
    """The bits of a choice behind those that have been read."""
    return short_code(choice, feeding.choices)[feeding.count:]


def open_choices(feeding):
    """The first and the last choice of the present link whose codes begin with the bits that have been read."""
    count, few = code_sizes(feeding.choices)
    left = count + 1 - feeding.count
    ends = (feeding.value << left, ((feeding.value + 1) << left) - 1)
    # All codes are told with one bit more than the shorter ones have; these stand there twice.
    return tuple([end // 2 if end < 2 * few else end - few for end in ends])
