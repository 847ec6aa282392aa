"""How the rings of a sheet settle at a point."""

from whysheets.errors import NoRing
from whysheets.knotting import Knotting, is_ring
from whysheets.running import run_through
from whysheets.wanting import sound_frame, want_point


def rings(sheet):
    """The ascending list of the tuples of the cells of each ring."""
    return Knotting(sound_frame(sheet)).rings


def rounds(sheet, point, cell):
    """The list of the tuples of worths of a cell's ring, round by round."""
    frame = sound_frame(sheet)
    want_point(frame, point)
    run = run_through(frame, point)
    return run.turns[ring_of(run.knotting, cell)]


def settled(sheet, point, cell):
    """After how many rounds the ring of a cell settles, or comes again."""
    turns = rounds(sheet, point, cell)
    first = turns.index(turns[-1])
    changes = len(turns) - 1
    return ("settled", changes) if first == changes else ("again", first, changes - first)


def ring_of(knotting, cell):
    """The ring of a cell; NoRing for any value that is no cell of a ring."""
    if not isinstance(cell, str) or cell not in knotting.homes or not is_ring(knotting.homes[cell]):
        raise NoRing(cell)
    return knotting.homes[cell]
