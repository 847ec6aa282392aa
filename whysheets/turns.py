"""Turns, behind which all wishes are granted, and walls, which shut all turns out."""

from whysheets.boxes import is_box_of
from whysheets.errors import BadBox, BadLot
from whysheets.moving import all_moves, box_without, is_lot_at, is_way, point_behind, want_lot, way_between
from whysheets.turning import does_shut, does_turn, first_turn, least_turns, met_moves, turning_of
from whysheets.wanting import sound_frame, want_point


def moves(sheet, point):
    """The ascending list of all moves at a point."""
    frame = sound_frame(sheet)
    want_point(frame, point)
    return all_moves(frame, point)


def behind(sheet, point, lot):
    """The point behind a way."""
    frame = sound_frame(sheet)
    want_point(frame, point)
    want_lot(frame, point, lot)
    if not is_way(lot):
        raise BadLot("several moves of one input")
    return point_behind(point, lot)


def way_to(sheet, point, other):
    """The way from a point to another one."""
    frame = sound_frame(sheet)
    want_point(frame, point)
    want_point(frame, other)
    return way_between(point, other)


def is_turn(sheet, point, wishes, thing):
    """Whether any value is a way behind which all wishes are granted."""
    turning = turning_of(sheet, point, wishes)
    return is_lot_at(turning.frame, point, thing) and does_turn(turning, thing)


def shuts(sheet, point, wishes, thing):
    """Whether any value is a lot such that no way without any of its moves is a turn."""
    turning = turning_of(sheet, point, wishes)
    return is_lot_at(turning.frame, point, thing) and does_shut(turning, thing)


def box_beside(sheet, point, lot):
    """The box of the points behind all ways without any move of a lot."""
    frame = sound_frame(sheet)
    want_point(frame, point)
    want_lot(frame, point, lot)
    return box_without(frame, point, lot)


def wall_of(sheet, point, box):
    """The lot of all moves whose numbers are not in a box with the point."""
    frame = sound_frame(sheet)
    want_point(frame, point)
    if not is_box_of(frame.sheet[1], box) or not all([point[name] in box[name] for name in box]):
        raise BadBox("no box with the point in it")
    return tuple([move for move in all_moves(frame, point) if move[1] not in box[move[0]]])


def turn_within(sheet, point, wishes, lot):
    """The least one of the turns with the fewest moves of a lot; None if no way of its moves is a turn."""
    turning = turning_of(sheet, point, wishes)
    want_lot(turning.frame, point, lot)
    return first_turn(turning, lot)


def wall_within(sheet, point, wishes, lot):
    """What is left of a wall when, from the last move on, all are taken out that it does not need; None for no wall."""
    turning = turning_of(sheet, point, wishes)
    want_lot(turning.frame, point, lot)
    found = list(lot)
    # Of each turn the moves that are left of the lot: none of these may become empty.
    rows = [met_moves(lot, turn) for turn in least_turns(turning, all_moves(turning.frame, point))]
    if [] in rows:
        return None
    for move in lot[::-1]:
        if [move] not in rows:
            found.remove(move)
            rows = [[one for one in row if one != move] for row in rows]
    return tuple(found)
