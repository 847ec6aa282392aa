"""What shows that no move of a turn, or of a wall, can be left out."""

from whysheets.errors import NoTurn, NoWall, NotLeast
from whysheets.moving import all_moves, is_lot_at, is_move, want_lot
from whysheets.turning import does_shut, does_turn, first_turn, least_turns, met_moves, turning_of


def walls_by_move(sheet, point, wishes, lot):
    """The dict from the moves of a least turn to walls, each with just this one of them."""
    turning = turned(sheet, point, wishes, lot)
    if len(first_turn(turning, lot)) < len(lot):
        raise NotLeast("a turn without one of the moves")
    others = all_moves(turning.frame, point)
    # What is left without these holds no turn, as the turn is a least one.
    return {move: tuple([one for one in others if one == move or one not in lot]) for move in lot}


def turned(sheet, point, wishes, lot):
    """The turning of a point; BadLot, NoTurn."""
    turning = turning_of(sheet, point, wishes)
    want_lot(turning.frame, point, lot)
    if not does_turn(turning, lot):
        raise NoTurn("no turn")
    return turning


def turns_by_move(sheet, point, wishes, lot):
    """The dict from the moves of a least wall to turns, each with just this one of them."""
    turning = shut(sheet, point, wishes, lot)
    turns = least_turns(turning, all_moves(turning.frame, point))
    found = {}
    for move in lot:
        own = [turn for turn in turns if met_moves(lot, turn) == [move]]
        if not own:
            raise NotLeast("a wall without one of the moves")
        found[move] = own[0]
    return found


def shut(sheet, point, wishes, lot):
    """The turning of a point; BadLot, NoWall."""
    turning = turning_of(sheet, point, wishes)
    want_lot(turning.frame, point, lot)
    if not does_shut(turning, lot):
        raise NoWall("no wall")
    return turning


def is_turn_shown(sheet, point, wishes, lot, thing):
    """Whether any value is a dict from the moves of a turn to walls, each with just this one of them."""
    turning = turned(sheet, point, wishes, lot)
    if not is_by_move(turning, lot, thing):
        return False
    return all([does_shut(turning, thing[move]) for move in lot])


def is_shut_shown(sheet, point, wishes, lot, thing):
    """Whether any value is a dict from the moves of a wall to turns, each with just this one of them."""
    turning = shut(sheet, point, wishes, lot)
    if not is_by_move(turning, lot, thing):
        return False
    return all([does_turn(turning, thing[move]) for move in lot])


def is_by_move(turning, lot, thing):
    """Whether any value is a dict from the moves of a lot to lots, each with just this one of them."""
    if not isinstance(thing, dict) or len(thing) != len(lot):
        return False
    for move, other in thing.items():
        # True would be equal to 1, but is no number.
        if not is_move(turning.frame, turning.begin, move) or move not in lot:
            return False
        if not is_lot_at(turning.frame, turning.begin, other) or met_moves(lot, other) != [move]:
            return False
    return True
