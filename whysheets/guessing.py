"""How a learner comes to its guesses.

For each depth it holds ways, no two of which can lead to the same rest by what was told,
and tests, which are numbers for the names behind the depth. A way followed by a number
fits the way of the next depth that has the same worths behind all tests there. When each
fits one, this makes a guess; where the guess fails, a further test is found by halving.

Points, ways and tests are told by indexes of the ranges here.
"""

from whysheets.nodes import Store, size_at

ASK = "ask"
GUESS = "guess"
KNOWN = "known"


class Guessing:
    """What has been told so far, and what is wanted."""

    def __init__(self, order):
        self.order = order
        self.count = len(order)
        self.known = {}
        self.held_ways = [[(0,) * depth] for depth in range(self.count)]
        self.tests = [[] for _ in range(self.count)] + [[()]]
        # For each depth the dict from ways of it, one number longer, to the ways that they fit.
        self.fits = [{} for _ in range(self.count)]
        self.changed = [True] * self.count
        self.waiting = [()] if self.count == 0 else []
        if self.count > 0:
            self.await_tests(self.count, self.held_ways[-1], [()])
        # A point at which the guess fails, and the depths between which the worth changes.
        self.search = None
        self.want = ASK
        self.wanted = None
        self.go_on()

    def take_copy(self, other):
        """Takes over the state of another one of the same order."""
        self.known = {indexes: other.known[indexes] for indexes in other.known}
        self.held_ways = [list(row) for row in other.held_ways]
        self.tests = [list(row) for row in other.tests]
        self.fits = [{way: row[way] for way in row} for row in other.fits]
        self.changed = list(other.changed)
        self.waiting = list(other.waiting)
        self.search = None if other.search is None else list(other.search)
        self.want = other.want
        self.wanted = other.wanted

    def await_tests(self, depth, ways, tests):
        """Waits for the worths of some ways of the depth ahead, each number behind them and some tests of a depth."""
        for way in ways:
            for at in range(size_at(self.order, depth - 1)):
                self.waiting.extend([way + (at,) + test for test in tests])

    def tell(self, indexes, worth):
        """Takes a worth that is told of a point, which the guess fails to give if there is one."""
        self.known[indexes] = worth
        if self.want == GUESS:
            self.search = [indexes, 0, self.count - 1]
        self.go_on()

    def go_on(self):
        """Finds what is wanted next."""
        self.wanted = None
        while self.wanted is None:
            while self.waiting and self.waiting[-1] in self.known:
                self.waiting.pop()
            if self.search is not None:
                self.halve()
            elif self.waiting:
                self.ask(self.waiting[-1])
            elif not self.finds_ways():
                self.guess()

    def ask(self, indexes):
        """A point is asked for."""
        self.want = ASK
        self.wanted = indexes

    def halve(self):
        """Looks between two depths for where going on by the guess's way changes the worth of a point."""
        indexes, low, high = self.search
        if high - low == 1:
            self.search = None
            self.tests[high].append(indexes[high:])
            self.changed[high] = True
            self.await_tests(high, self.held_ways[high - 1], [indexes[high:]])
            return
        middle = (low + high) // 2
        other = self.way_of(indexes[:middle]) + indexes[middle:]
        if other not in self.known:
            self.ask(other)
        elif self.known[other] == self.known[indexes]:
            self.search = [indexes, middle, high]
        else:
            self.search = [indexes, low, middle]

    def way_of(self, indexes):
        """The way that the guess takes in the place of the first indexes of a point."""
        way = ()
        for depth, at in enumerate(indexes):
            way = self.fits[depth + 1][way + (at,)]
        return way

    def finds_ways(self):
        """Whether a way followed by a number fits none of the next depth; then it is one there."""
        for depth in range(1, self.count):
            if self.changed[depth] and self.finds_ways_at(depth):
                return True
            self.changed[depth] = False
        return False

    def finds_ways_at(self, depth):
        """Whether there are further ways of a depth; notes what fits which way."""
        rows = {self.row_of(way, depth): way for way in self.held_ways[depth]}
        more = []
        for way in self.held_ways[depth - 1]:
            for at in range(size_at(self.order, depth - 1)):
                row = self.row_of(way + (at,), depth)
                if row not in rows:
                    rows[row] = way + (at,)
                    more.append(way + (at,))
                self.fits[depth][way + (at,)] = rows[row]
        if more:
            self.held_ways[depth].extend(more)
            self.await_tests(depth + 1, more, self.tests[depth + 1])
            if depth + 1 < self.count:
                self.changed[depth + 1] = True
        return len(more) > 0

    def row_of(self, way, depth):
        """The tuple of the worths of a way behind all tests of its depth."""
        return tuple([self.known[way + test] for test in self.tests[depth]])

    def guess(self):
        """Guesses, unless the guess fails at a point that was told."""
        for indexes in self.known:
            if self.guessed(indexes) != self.known[indexes]:
                self.search = [indexes, 0, self.count - 1]
                return
        self.want = GUESS
        self.wanted = ()

    def guessed(self, indexes):
        """The worth of the guess at a point."""
        if self.count == 0:
            return self.known[()]
        return self.known[self.way_of(indexes[:-1]) + indexes[-1:]]

    def guess_node(self):
        """The store and the node of the guess."""
        store = Store(self.order)
        if self.count == 0:
            return store, store.leaf(self.known[()])
        numbers = {}
        for depth in range(self.count - 1, -1, -1):
            for way in self.held_ways[depth]:
                children = []
                for at in range(size_at(self.order, depth)):
                    if depth == self.count - 1:
                        children.append(store.leaf(self.known[way + (at,)]))
                    else:
                        children.append(numbers[self.fits[depth + 1][way + (at,)]])
                numbers[way] = store.question(depth, tuple(children))
        return store, numbers[()]

    def is_wanting(self, want):
        """Whether this is what is wanted."""
        return self.want == want

    def agree(self):
        """The guess is right."""
        self.want = KNOWN
