"""Plans, by which "mine" has a wish granted whatever the others set, and spoilers, which keep it from that."""

from whysheets.boxes import want_prices, whole_of, with_number
from whysheets.errors import BadPrice, IsSure
from whysheets.gaming import Board, Playing, costs_of, is_end, opposite, rests_of, want_game, want_wish
from whysheets.judge import first_wrong
from whysheets.papering import DEEPEST, has_paper_form
from whysheets.searching import paper_over
from whysheets.values import is_number
from whysheets.wanting import sound_frame, want_point


class Contest:
    """A game for a wish, at a point and with prices; it judges and makes plans and spoilers.

    They are for positions, told by their level, their box and, for spoilers, what has been paid.
    """

    def __init__(self, frame, point, game, prices, wish):
        self.frame = frame
        self.board = Board(frame, [name for name, _ in game], wish[0])
        self.playing = Playing(self.board, [hand for _, hand in game], costs_of(game, self.board.order, point, prices))
        self.first = self.board.truth_of(wish)
        self.begin = whole_of(frame)
        # No point breaks the one where all grant the wish, the other one where none does.
        self.won = self.board.case_for(opposite(wish))
        self.lost = self.board.case_for(wish)

    def is_shown(self, case, box, thing):
        """Whether any value is a right paper for the claim of a case."""
        return has_paper_form(self.frame, thing, DEEPEST) and first_wrong(case, box, thing, ()) is None

    def box_at(self, box, level, at):
        """The box with one number alone for the input of a level."""
        name, low, _ = self.board.order[level]
        return with_number(box, name, (low + at,))

    def is_plan_from(self, level, box, thing):
        """Whether any value is a plan from a position."""
        if is_end(thing, "won", 2):
            return self.is_shown(self.won, box, thing[1])
        rests = rests_of(self.board.order, level, self.does_choose(level), thing)
        if rests is None:
            return False
        return all([self.is_plan_from(level + 1, self.box_at(box, level, at), rest) for at, rest in rests])

    def does_choose(self, level):
        """Whether "mine" sets the input of a level, if there is one."""
        return level < len(self.board.order) and self.playing.does_choose(level)

    def plan_price(self, level, plan):
        """The price of a plan from a position."""
        if plan[0] == "won":
            return 0
        prices = []
        for at, rest in rests_of(self.board.order, level, self.does_choose(level), plan):
            prices.append(self.playing.costs[level][at] + self.plan_price(level + 1, rest))
        return max(prices)

    def plan(self, number, level, box):
        """A plan with the least price from a position with a node, from which there is one."""
        if self.board.store.is_leaf(number):
            return ("won", paper_over(self.won, box))
        if self.does_choose(level):
            at = self.playing.best_at(number, level)
            child = self.board.store.child(number, level, at)
            rest = self.plan(child, level + 1, self.box_at(box, level, at))
            return ("set", self.board.order[level][1] + at, rest)
        rests = []
        for at in range(len(self.playing.costs[level])):
            child = self.board.store.child(number, level, at)
            rests.append(self.plan(child, level + 1, self.box_at(box, level, at)))
        return ("each", tuple(rests))

    def is_spoiler_from(self, level, box, missing, thing):
        """Whether any value is a spoiler from a position at which so much is missing from the price, or None."""
        if is_end(thing, "lost", 2):
            return self.is_shown(self.lost, box, thing[1])
        if is_end(thing, "paid", 1):
            return missing is not None and missing <= 0
        rests = rests_of(self.board.order, level, not self.does_choose(level), thing)
        if rests is None:
            return False
        for at, rest in rests:
            behind = less(missing, self.playing.costs[level][at])
            if not self.is_spoiler_from(level + 1, self.box_at(box, level, at), behind, rest):
                return False
        return True

    def spoil(self, number, level, box, missing):
        """A spoiler from a position with a node, from which there is one."""
        if missing is not None and missing <= 0:
            return ("paid",)
        if self.board.store.is_leaf(number):
            return ("lost", paper_over(self.lost, box))
        if not self.does_choose(level):
            at = self.playing.worst_at(number, level)
            child = self.board.store.child(number, level, at)
            rest = self.spoil(child, level + 1, self.box_at(box, level, at), missing)
            return ("set", self.board.order[level][1] + at, rest)
        rests = []
        for at, cost in enumerate(self.playing.costs[level]):
            child = self.board.store.child(number, level, at)
            rests.append(self.spoil(child, level + 1, self.box_at(box, level, at), less(missing, cost)))
        return ("each", tuple(rests))


def less(missing, cost):
    """What is missing from a price behind a cost; of None it is None."""
    return None if missing is None else missing - cost


def contest_of(sheet, point, game, prices, wish):
    """The contest for a wish; BadSheet, Faulty, BadPoint, BadGame, BadPrices, BadWish."""
    frame = sound_frame(sheet)
    want_point(frame, point)
    want_game(frame, game)
    want_prices(frame, prices)
    want_wish(frame, wish)
    return Contest(frame, point, game, prices, wish)


def want_price(price, low):
    """Raises BadPrice unless a price is None or a number from a low one on."""
    if price is not None and not (is_number(price) and price >= low):
        raise BadPrice("neither None nor such a number")


def is_plan(sheet, point, game, prices, wish, price, thing):
    """Whether any value is a plan, with at most this price unless it is None."""
    contest = contest_of(sheet, point, game, prices, wish)
    want_price(price, 0)
    if not contest.is_plan_from(0, contest.begin, thing):
        return False
    return price is None or contest.plan_price(0, thing) <= price


def is_spoiler(sheet, point, game, prices, wish, price, thing):
    """Whether any value is a spoiler for a price."""
    contest = contest_of(sheet, point, game, prices, wish)
    want_price(price, 1)
    return contest.is_spoiler_from(0, contest.begin, price, thing)


def sure(sheet, point, game, prices, wish):
    """The least price of a plan and a plan that has it, or a spoiler for None."""
    contest = contest_of(sheet, point, game, prices, wish)
    price = contest.playing.price_from(contest.first)
    if price is None:
        return ("spoiled", contest.spoil(contest.first, 0, contest.begin, None))
    return ("sure", price, contest.plan(contest.first, 0, contest.begin))


def spoiler(sheet, point, game, prices, wish, price):
    """A spoiler for a price."""
    contest = contest_of(sheet, point, game, prices, wish)
    want_price(price, 1)
    found = contest.playing.price_from(contest.first)
    if found is not None and (price is None or found < price):
        raise IsSure(found)
    return contest.spoil(contest.first, 0, contest.begin, price)
