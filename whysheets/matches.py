"""Matches: a game that is played number by number."""

from whysheets.errors import BadNumber, MatchOver, NoPlan, NotMine, NothingSet
from whysheets.hands import contest_of
from whysheets.values import is_number_from


class Match:
    """Begins with the empty position."""

    def __init__(self, sheet, point, game, prices, wish):
        self.contest = contest_of(sheet, point, game, prices, wish)
        self.hands = [hand for _, hand in game]
        # The nodes from the first one to that of the position, and the indexes of the numbers that are set.
        self.numbers = [self.contest.first]
        self.indexes = []

    def put(self, number):
        """Sets the next input."""
        self.want_next()
        _, low, high = self.contest.board.order[len(self.indexes)]
        if not is_number_from(number, low, high):
            raise BadNumber("no number of the range")
        level = len(self.indexes)
        self.numbers.append(self.contest.board.store.child(self.numbers[-1], level, number - low))
        self.indexes.append(number - low)

    def want_next(self):
        """Raises MatchOver if all is set."""
        if len(self.indexes) == len(self.hands):
            raise MatchOver("all inputs are set")

    def undo(self):
        """Takes the last number back."""
        if not self.indexes:
            raise NothingSet("nothing is set")
        self.numbers.pop()
        self.indexes.pop()

    def position(self):
        """The tuple of the numbers that are set."""
        order = self.contest.board.order
        return tuple([order[level][1] + at for level, at in enumerate(self.indexes)])

    def owner(self):
        """The hand of the next input; None if all is set."""
        return None if len(self.indexes) == len(self.hands) else self.hands[len(self.indexes)]

    def paid(self):
        """What "mine" has paid."""
        return sum([self.contest.playing.costs[level][at] for level, at in enumerate(self.indexes)])

    def left(self):
        """The least price of a plan from here on; None if there is none."""
        return self.contest.playing.price_from(self.numbers[-1])

    def best(self):
        """A number for the next input with which the least price is kept."""
        self.want_next()
        level = len(self.indexes)
        if not self.contest.playing.does_choose(level):
            raise NotMine("the next input is of another hand")
        if self.left() is None:
            raise NoPlan("there is no plan")
        return self.contest.board.order[level][1] + self.contest.playing.best_at(self.numbers[-1], level)
