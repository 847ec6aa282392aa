"""Courses: how two sides set inputs where chance sets some, and what is due to them."""

from whysheets.boxes import whole_of, with_number
from whysheets.errors import BadCourse, BadSide, BadWeights, OpenWorth
from whysheets.gaming import CHANCE, MINE, OTHER, Board, is_end, rests_of, want_game
from whysheets.making import points_that_matter
from whysheets.scheming import Known
from whysheets.values import is_number, is_number_from, is_tuple_of
from whysheets.wanting import sound_frame, want_cell_spot

GREATEST_WEIGHT = 99


class Course:
    """A game for a spot; it judges courses and tells their due."""

    def __init__(self, frame, spot, game):
        self.hands = [hand for _, hand in game]
        self.order = tuple([frame.things[name][1:] for name, _ in game])
        self.judging = Known(frame, spot)

    def is_course_from(self, side, level, box, thing):
        """Whether any value is a course of a side from a position."""
        if is_end(thing, "known", 3):
            return is_number(thing[1]) and self.judging.is_shown(box, thing[1], thing[2])
        rests = rests_of(self.order, level, self.does_choose(side, level), thing)
        if rests is None:
            return False
        name, low, _ = self.order[level]
        for at, rest in rests:
            if not self.is_course_from(side, level + 1, with_number(box, name, (low + at,)), rest):
                return False
        return True

    def does_choose(self, side, level):
        """Whether a side sets the input of a level, if there is one."""
        return level < len(self.order) and self.hands[level] == side

    def due_of(self, side, level, course, rows):
        """The due of a course from a position; rows has the weights of each level."""
        if course[0] == "known":
            return course[1] * chances(self.hands, rows, level, len(rows))
        rests = rests_of(self.order, level, self.does_choose(side, level), course)
        dues = [self.due_of(side, level + 1, rest, rows) for _, rest in rests]
        if self.hands[level] == CHANCE:
            return sum([dues[at] * weight for at, weight in enumerate(rows[level])])
        # What the side itself sets has one due alone.
        return min(dues) if side == MINE else max(dues)


def chances(hands, rows, begin, end):
    """The product of the sums of the weights of the levels of chance from one to another one."""
    total = 1
    for level in range(begin, end):
        if hands[level] == CHANCE:
            total = total * sum(rows[level])
    return total


def is_course(sheet, spot, game, side, thing):
    """Whether any value is a course of a side."""
    frame = sound_frame(sheet)
    want_cell_spot(frame, spot)
    want_game(frame, game)
    want_side(side)
    return Course(frame, spot, game).is_course_from(side, 0, whole_of(frame), thing)


def want_side(side):
    """Raises BadSide for what is no side."""
    if not isinstance(side, str) or side not in (MINE, OTHER):
        raise BadSide("neither mine nor other")


def want_chance_weights(frame, weights):
    """Raises BadWeights for what is no dict from all inputs to tuples of numbers from 1 to 99."""
    if not isinstance(weights, dict) or len(weights) != len(frame.sheet[1]):
        raise BadWeights("no dict from all inputs")
    for _, name, low, high in frame.sheet[1]:
        if name not in weights or not is_tuple_of(weights[name], high - low + 1):
            raise BadWeights("no tuple with a number for each of the range")
        if not all([is_number_from(weight, 1, GREATEST_WEIGHT) for weight in weights[name]]):
            raise BadWeights("no numbers from 1 to 99")


def want_closed(frame, table):
    """Raises OpenWorth with the least point at which the one spot of a table is open."""
    for point in points_that_matter(frame, table.steps.names):
        if table.worths_at(point)[0] is None:
            raise OpenWorth(point)


def due(sheet, spot, game, weights, side, course):
    """The due of a course of a side."""
    frame = sound_frame(sheet)
    want_cell_spot(frame, spot)
    want_game(frame, game)
    want_chance_weights(frame, weights)
    want_side(side)
    judging = Course(frame, spot, game)
    if not judging.is_course_from(side, 0, whole_of(frame), course):
        raise BadCourse("no course")
    want_closed(frame, judging.judging.table)
    return judging.due_of(side, 0, course, [weights[name] for name, _ in game])


class Stake:
    """The dues that both sides can hold each other to, from each node of a spot's worth."""

    def __init__(self, board, hands, rows):
        self.board = board
        self.hands = hands
        self.rows = rows
        self.made = {}

    def due_from(self, number, level):
        """The due from a node at a level."""
        own = self.own_due(number)
        return own * chances(self.hands, self.rows, level, self.board.store.levels[number])

    def own_due(self, number):
        """The due from a node at its own level."""
        store = self.board.store
        if store.is_leaf(number):
            return store.worth_of(number)
        if number not in self.made:
            level = store.levels[number]
            dues = self.dues_by(number, level)
            if self.hands[level] == CHANCE:
                self.made[number] = sum([dues[at] * weight for at, weight in enumerate(self.rows[level])])
            else:
                self.made[number] = max(dues) if self.hands[level] == MINE else min(dues)
        return self.made[number]

    def dues_by(self, number, level):
        """The list of the dues from a node on, by each number of a level."""
        store = self.board.store
        return [self.due_from(store.child(number, level, at), level + 1) for at in range(len(self.rows[level]))]

    def course(self, side, number, level, box):
        """A course of a side with the due from a position with a node."""
        store = self.board.store
        if store.is_leaf(number):
            worth = store.worth_of(number)
            return ("known", worth, self.board.judging.paper_for(box, worth))
        name, low, _ = self.board.order[level]
        dues = self.dues_by(number, level)
        rests = []
        best = dues.index(max(dues) if side == MINE else min(dues))
        chosen = [best] if self.hands[level] == side else list(range(len(dues)))
        for at in chosen:
            child = store.child(number, level, at)
            rests.append(self.course(side, child, level + 1, with_number(box, name, (low + at,))))
        return ("set", low + best, rests[0]) if self.hands[level] == side else ("each", tuple(rests))


def stakes(sheet, spot, game, weights):
    """The triple of a due, a course of "mine" and a course of "other" that both have this due."""
    frame = sound_frame(sheet)
    want_cell_spot(frame, spot)
    want_game(frame, game)
    want_chance_weights(frame, weights)
    board = Board(frame, [name for name, _ in game], spot)
    want_closed(frame, board.judging.table)
    stake = Stake(board, [hand for _, hand in game], [weights[name] for name, _ in game])
    box = whole_of(frame)
    mine = stake.course(MINE, board.first, 0, box)
    return stake.due_from(board.first, 0), mine, stake.course(OTHER, board.first, 0, box)
