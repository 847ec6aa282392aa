"""All least turns and all least walls, which are each other's mirror."""

from whysheets.errors import BadLots, BadMost, TooMany
from whysheets.hitting import least_hits
from whysheets.moving import all_moves, box_without, is_lot_at, is_move
from whysheets.turning import least_turns, turning_of
from whysheets.values import is_list, is_number_from
from whysheets.wanting import sound_frame, want_point

GREATEST_MOST = 200


def mirror(sheet, point, wishes, most):
    """The pair of the ascending lists of all least turns and of all least walls."""
    return both_lists(turning_of(sheet, point, wishes), most)


def both_lists(turning, most):
    """The lists of all least turns and all least walls; BadMost, TooMany if one has more than most."""
    if not is_number_from(most, 1, GREATEST_MOST):
        raise BadMost("no number from 1 to 200")
    turns = least_turns(turning, all_moves(turning.frame, turning.begin))
    if len(turns) > most:
        raise TooMany(most)
    walls = least_hits(turns, most)
    if len(walls) > most:
        raise TooMany(most)
    return turns, walls


def mirror_tree(sheet, point, wishes, most):
    """A tree that shows that the lists of mirror are whole."""
    turns, walls = both_lists(turning_of(sheet, point, wishes), most)
    return tree_of(turns, walls, {})


def tree_of(turns, walls, taken):
    """A tree for two lists, where taken tells of some moves whether they are taken or left."""
    for word, lots, is_taken in (("turn", turns, True), ("wall", walls, False)):
        for k, lot in enumerate(lots):
            if are_all(lot, taken, is_taken):
                return (word, k)
    move = best_move(turns, walls, taken)
    return ("move", move, tree_of(turns, walls, with_move(taken, move, True)),
            tree_of(turns, walls, with_move(taken, move, False)))


def are_all(lot, taken, is_taken):
    """Whether all moves of a lot are taken, or all are left."""
    return all([move in taken and taken[move] == is_taken for move in lot])


def with_move(taken, move, is_taken):
    """A new dict in which a further move is taken or left."""
    made = {one: taken[one] for one in taken}
    made[move] = is_taken
    return made


def best_move(turns, walls, taken):
    """The move that stands in the most lots that can still be ended, the short ones counting most."""
    weights = {}
    for lots, is_taken in ((turns, True), (walls, False)):
        for lot in lots:
            if all([move not in taken or taken[move] == is_taken for move in lot]):
                rest = [move for move in lot if move not in taken]
                for move in rest:
                    weights[move] = weights.get(move, 0) + (1 << (64 - min(len(rest), 64)))
    greatest = max(list(weights.values()))
    return min([move for move in weights if weights[move] == greatest])


def is_mirror_tree(sheet, point, turns, walls, thing):
    """Whether any value is a tree for two lists of lots."""
    frame = sound_frame(sheet)
    want_point(frame, point)
    for word, lots in (("turns", turns), ("walls", walls)):
        if not is_list(lots) or not all([is_lot_at(frame, point, lot) for lot in lots]):
            raise BadLots(word)
    open_moves = {move: True for move in all_moves(frame, point)}
    return is_tree(frame, point, {"turn": turns, "wall": walls}, thing, open_moves, {})


def is_tree(frame, point, lots, thing, open_moves, taken):
    """Whether any value is a tree where some moves are open and the others taken or left."""
    if not isinstance(thing, tuple) or not thing or not isinstance(thing[0], str):
        return False
    if thing[0] in lots:
        if len(thing) != 2 or not is_number_from(thing[1], 0, len(lots[thing[0]]) - 1):
            return False
        return are_all(lots[thing[0]][thing[1]], taken, thing[0] == "turn")
    if thing[0] != "move" or len(thing) != 4:
        return False
    if not is_move(frame, point, thing[1]) or thing[1] not in open_moves:
        return False
    others = {move: True for move in open_moves if move != thing[1]}
    for part, is_taken in ((thing[2], True), (thing[3], False)):
        if not is_tree(frame, point, lots, part, others, with_move(taken, thing[1], is_taken)):
            return False
    return True


def idle_moves(sheet, point, wishes):
    """The ascending list of the moves that stand in no least turn."""
    turning = turning_of(sheet, point, wishes)
    own = all_moves(turning.frame, point)
    used = {move: True for turn in least_turns(turning, own) for move in turn}
    return [move for move in own if move not in used]


def roomiest(sheet, point, wishes, most):
    """How many points the roomiest box of a least wall has, and the least such wall."""
    turning = turning_of(sheet, point, wishes)
    _, walls = both_lists(turning, most)
    counts = [count_beside(turning, lot) for lot in walls]
    return max(counts), walls[counts.index(max(counts))]


def count_beside(turning, lot):
    """How many points the box beside a lot has."""
    count = 1
    for numbers in list(box_without(turning.frame, turning.begin, lot).values()):
        count = count * len(numbers)
    return count
