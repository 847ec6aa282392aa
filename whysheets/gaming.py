"""Games: hands that set the inputs, one behind another, and what has been paid for it."""

from whysheets.claiming import Case, is_granted, is_wish
from whysheets.errors import BadGame, BadWish
from whysheets.growing import grown_at_spot
from whysheets.nodes import Store, combined
from whysheets.scheming import Known
from whysheets.values import is_number_from, is_tuple_of, worth_key

MINE = "mine"
OTHER = "other"
CHANCE = "chance"
HANDS = ("mine", "other", "chance")


def is_game(frame, thing):
    """Whether any value is a tuple of pairs of each input, once, and its hand."""
    if not is_tuple_of(thing, len(frame.sheet[1])) or not all([is_tuple_of(pair, 2) for pair in thing]):
        return False
    if not all([isinstance(pair[1], str) and pair[1] in HANDS for pair in thing]):
        return False
    return are_all_inputs(frame, [pair[0] for pair in thing])


def are_all_inputs(frame, things):
    """Whether a list has each input once and nothing else."""
    if not all([isinstance(one, str) for one in things]):
        return False
    return sorted(things) == sorted([one[1] for one in frame.sheet[1]])


def want_game(frame, game):
    """Raises BadGame for what is no game."""
    if not is_game(frame, game):
        raise BadGame("no game of the sheet")


def want_wish(frame, wish):
    """Raises BadWish for what is no wish."""
    if not is_wish(frame, wish):
        raise BadWish("no wish of the sheet")


def opposite(wish):
    """The wish that is granted just where this one is not."""
    return (wish[0], wish[1], not wish[2])


class Board:
    """The inputs in the sequence in which they are set, and the worths of a spot as a node over them."""

    def __init__(self, frame, names, spot):
        self.order = tuple([frame.things[name][1:] for name in names])
        self.judging = Known(frame, spot)
        self.store = Store(self.order)
        rows = [list(range(low, high + 1)) for _, low, high in self.order]
        self.first = grown_at_spot(self.store, self.judging.table, rows)

    def case_for(self, wish):
        """The case of the claim that no point grants a wish for the spot."""
        return Case(((wish,), None), self.judging.table, self.judging.spans)

    def truth_of(self, wish):
        """The node that is 1 where a wish for the spot is granted, and 0 elsewhere."""
        def decide(store, numbers):
            if not store.is_leaf(numbers[0]):
                return None
            return store.leaf(1 if is_granted(wish, store.worth_of(numbers[0])) else 0)
        return combined(self.store, (self.first,), decide, {})


class Playing:
    """What it costs "mine" to have a wish granted, from each node of its truth.

    A node that skips a level costs the same there: "mine" can set an input to the number
    that it has, which costs nothing, and what the others set makes no difference.
    """

    def __init__(self, board, hands, costs):
        self.board = board
        self.hands = hands
        # For each level the list of what "mine" pays for each number.
        self.costs = costs
        self.made = {}

    def price_from(self, number):
        """The least price of a plan from a node; None if there is none."""
        store = self.board.store
        if store.is_leaf(number):
            return 0 if store.worth_of(number) == 1 else None
        if number not in self.made:
            prices = self.prices_by(number, store.levels[number])
            best = min(prices, key=worth_key) if self.does_choose(store.levels[number]) else max(prices, key=worth_key)
            self.made[number] = best
        return self.made[number]

    def does_choose(self, level):
        """Whether the input of a level is set by "mine"."""
        return self.hands[level] == MINE

    def prices_by(self, number, level):
        """The list of the least prices of a plan from a node on, by each number of a level."""
        found = []
        for at, cost in enumerate(self.costs[level]):
            behind = self.price_from(self.board.store.child(number, level, at))
            found.append(None if behind is None else cost + behind)
        return found

    def best_at(self, number, level):
        """The index of a number of a level by which "mine" has the least price."""
        prices = self.prices_by(number, level)
        return prices.index(min(prices, key=worth_key))

    def worst_at(self, number, level):
        """The index of a number of a level by which the others leave the greatest price."""
        prices = self.prices_by(number, level)
        return prices.index(max(prices, key=worth_key))


def costs_of(game, order, point, prices):
    """The list for each level of the list of what "mine" pays for each number."""
    found = []
    for level, (name, low, high) in enumerate(order):
        own = prices[name] if game[level][1] == MINE else 0
        found.append([own * abs(number - point[name]) for number in range(low, high + 1)])
    return found


def no_costs(order):
    """The costs of setting where nothing is paid."""
    return [[0] * (high - low + 1) for _, low, high in order]


def rests_of(order, level, does_set, thing):
    """The list of the pairs of index and rest of any value that is a branch by its form; None of other values."""
    if level == len(order) or not isinstance(thing, tuple) or not thing or not isinstance(thing[0], str):
        return None
    _, low, high = order[level]
    if does_set:
        if thing[0] != "set" or len(thing) != 3 or not is_number_from(thing[1], low, high):
            return None
        return [(thing[1] - low, thing[2])]
    if thing[0] != "each" or len(thing) != 2 or not is_tuple_of(thing[1], high - low + 1):
        return None
    return list(enumerate(thing[1]))


def is_end(thing, word, count):
    """Whether any value is a tuple of so many items that begins with a word."""
    return is_tuple_of(thing, count) and isinstance(thing[0], str) and thing[0] == word
