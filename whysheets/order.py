"""In which order a sheet is worked out, and what depends on what."""

from whysheets.errors import BadNames
from whysheets.frames import spot_key
from whysheets.knotting import Knotting, is_input, knot_readers, ordered, reached_from, spots_in
from whysheets.shapes import names_in
from whysheets.values import is_list
from whysheets.wanting import sound_frame, want_spot


def knots(sheet):
    """The ascending tuple of all knots."""
    return tuple(Knotting(sound_frame(sheet)).knots)


def knot_of(sheet, spot):
    """The knot with a spot."""
    frame = sound_frame(sheet)
    want_spot(frame, spot)
    return Knotting(frame).homes[spot]


def order_of(sheet):
    """The tuple of all knots that are no inputs, each behind those that it reads."""
    return tuple(ordered(Knotting(sound_frame(sheet))))


def sources(sheet, spot):
    """The ascending tuple of the inputs from which a way leads to a spot's knot."""
    frame = sound_frame(sheet)
    want_spot(frame, spot)
    knotting = Knotting(frame)
    knot = knotting.homes[spot]
    found = [one for one in reached_from(knot, knotting.reads) if is_input(frame, one)]
    return tuple(sorted(found + [knot])) if is_input(frame, knot) else tuple(sorted(found))


def users(sheet, spot):
    """The ascending tuple of the spots of the other knots to which a way leads from a spot's knot."""
    frame = sound_frame(sheet)
    want_spot(frame, spot)
    knotting = Knotting(frame)
    found = []
    for knot in reached_from(knotting.homes[spot], knot_readers(knotting)):
        found.extend(spots_in(knot))
    return tuple(sorted(found, key=spot_key))


def kept(sheet, names):
    """The sheet with just the cells that are told and those whose names stand in them."""
    frame = sound_frame(sheet)
    if not are_cell_names(frame, names):
        raise BadNames("no list of different names of cells")
    return ("sheet", sheet[1], kept_cells(frame, names))


def kept_cells(frame, names):
    """The tuple of the cells of some names and of those whose names stand in them."""
    cells = frame.sheet[2]
    steps = {}
    for cell in cells:
        steps[cell[1]] = [name for name in names_in(cell) if frame.things[name][0] != "input"]
    needed = {}
    for name in names:
        needed[name] = True
        for one in reached_from(name, steps):
            needed[one] = True
    return tuple([cell for cell in cells if cell[1] in needed])


def are_cell_names(frame, thing):
    """Whether any value is a list of one or more different names of cells."""
    if not is_list(thing) or not thing:
        return False
    for name in thing:
        if not isinstance(name, str) or name not in frame.things or frame.things[name][0] == "input":
            return False
    return len({name: True for name in thing}) == len(thing)
