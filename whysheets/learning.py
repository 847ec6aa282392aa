"""Learners, who come to know a fork by asking for its worths and by guessing."""

from whysheets.errors import AlreadyTold, BadOrder, BadPoint, BadWorth, NoDifference, NotAsked, NotGuessed
from whysheets.forks import is_order
from whysheets.guessing import ASK, GUESS, KNOWN, Guessing
from whysheets.making import fork_of
from whysheets.nodes import stored, written
from whysheets.partings import parting_in
from whysheets.tallies import is_order_point, order_point
from whysheets.values import is_worth


class Learner:
    """Finds the fork over an order that a teller has in mind."""

    def __init__(self, order):
        if not is_order(order):
            raise BadOrder("no order")
        self.guessing = Guessing(order)
        # The indexes of the points of which it has been told, and the worths, as they came.
        self.heard = []

    def wants(self):
        """What it wants to be told, or what it knows."""
        if self.guessing.is_wanting(ASK):
            return (ASK, order_point(self.guessing.order, self.guessing.wanted))
        store, number = self.guessing.guess_node()
        return (KNOWN if self.guessing.is_wanting(KNOWN) else GUESS, written(store, number, store.order))

    def answer(self, worth):
        """Tells the worth at the point that it asks for."""
        if not is_worth(worth):
            raise BadWorth("neither a number nor None")
        if not self.guessing.is_wanting(ASK):
            raise NotAsked("nothing is asked")
        self.hear(self.guessing.wanted, worth)

    def hear(self, indexes, worth):
        """Takes what is told."""
        self.heard.append((indexes, worth))
        self.guessing.tell(indexes, worth)

    def differs(self, point, worth):
        """Tells a point at which its guess is wrong, and the worth there."""
        order = self.guessing.order
        if not is_order_point(order, point):
            raise BadPoint("no point of the order")
        if not is_worth(worth):
            raise BadWorth("neither a number nor None")
        self.want_guess()
        indexes = tuple([point[name] - low for name, low, _ in order])
        if indexes in self.guessing.known:
            raise AlreadyTold("it has been told of this point")
        if self.guessing.guessed(indexes) == worth:
            raise NoDifference("the guess has this worth there")
        self.hear(indexes, worth)

    def want_guess(self):
        """Raises NotGuessed unless it guesses."""
        if not self.guessing.is_wanting(GUESS):
            raise NotGuessed("nothing is guessed")

    def agrees(self):
        """Tells that its guess is right."""
        self.want_guess()
        self.guessing.agree()

    def told(self):
        """The list of the answers that it has been told."""
        return [(order_point(self.guessing.order, indexes), worth) for indexes, worth in self.heard]

    def copied(self):
        """A learner of its own in the same state."""
        other = Learner(self.guessing.order)
        other.guessing.take_copy(self.guessing)
        other.heard = list(self.heard)
        return other


def learn(sheet, spot, order):
    """The fork of a spot's worth as a learner comes to know it, and the answers that it is told."""
    fork = fork_of(sheet, spot, order)
    learner = Learner(order)
    while not learner.guessing.is_wanting(KNOWN):
        if learner.guessing.is_wanting(ASK):
            learner.answer(worth_behind(fork, learner.guessing.wanted))
        else:
            teach(learner, fork)
    return learner.wants()[1], learner.told()


def teach(learner, fork):
    """Tells a learner the least point at which its guess is wrong, or that it is right."""
    store, number = learner.guessing.guess_node()
    apart = parting_in(store, stored(store, fork), number)
    if apart is None:
        learner.agrees()
    else:
        learner.differs(apart, worth_behind(fork, [apart[name] - low for name, low, _ in fork[1]]))


def worth_behind(fork, indexes):
    """The worth of a fork at a point, told by the indexes of its numbers."""
    node = fork[2][0]
    places = {triple[0]: level for level, triple in enumerate(fork[1])}
    while node[0] != "leaf":
        node = fork[2][node[1][indexes[places[node[0]]]]]
    return node[1]
