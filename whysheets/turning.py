"""Looking for the turns that grant wishes, and for the walls that shut them out."""

from whysheets.claiming import case_of, is_wish
from whysheets.errors import BadWishes, NowSo
from whysheets.moving import box_without, is_way, point_behind
from whysheets.searching import breaking_point
from whysheets.values import is_list
from whysheets.wanting import sound_frame, want_point

MOST_WISHES = 8


class Turning:
    """A point of a sheet with wishes of which it does not grant all."""

    def __init__(self, frame, point, wishes):
        self.frame = frame
        self.begin = point
        # The points that break this claim are those that grant all the wishes.
        self.case = case_of(frame, (tuple(wishes), None))


def turning_of(sheet, point, wishes):
    """The turning of a point; BadSheet, Faulty, BadPoint, BadWishes, NowSo."""
    frame = sound_frame(sheet)
    want_point(frame, point)
    want_wishes(frame, wishes)
    turning = Turning(frame, point, wishes)
    if turning.case.breaks_at(point):
        raise NowSo("all wishes are granted")
    return turning


def want_wishes(frame, wishes):
    """Raises BadWishes for what is no list of 1 to 8 wishes."""
    if not is_list(wishes) or not 1 <= len(wishes) <= MOST_WISHES:
        raise BadWishes(None)
    for at, wish in enumerate(wishes):
        if not is_wish(frame, wish):
            raise BadWishes(at)


def grants(turning, way):
    """Whether all wishes are granted behind a way."""
    return turning.case.breaks_at(point_behind(turning.begin, way))


def does_turn(turning, lot):
    """Whether a lot is a turn."""
    return is_way(lot) and grants(turning, lot)


def does_shut(turning, lot):
    """Whether no way without any move of a lot is a turn."""
    return breaking_point(turning.case, box_without(turning.frame, turning.begin, lot)) is None


def ways_of(turning, lot):
    """The list of the ways of a lot's moves of inputs that lead to the wishes, by how many they are, then ascending."""
    found = [()]
    for name in turning.case.table.steps.names:
        own = [move for move in lot if move[0] == name]
        found = found + [way + (move,) for way in found for move in own]
    return sorted(found, key=lambda way: (len(way), way))


def first_turn(turning, lot):
    """The least one of the turns with the fewest moves of a lot; None if there is none."""
    for way in ways_of(turning, lot):
        if grants(turning, way):
            return way
    return None


def least_turns(turning, lot):
    """The ascending list of the least turns of a lot's moves."""
    # Whether a way holds a turn; those with fewer moves are known ahead of it.
    holds = {}
    found = []
    for way in ways_of(turning, lot):
        holds[way] = any([holds[way[:k] + way[k + 1:]] for k in range(len(way))])
        if not holds[way] and grants(turning, way):
            holds[way] = True
            found.append(way)
    return sorted(found)


def met_moves(lot, turn):
    """The list of the moves of a lot that a turn has."""
    return [move for move in turn if move in lot]
