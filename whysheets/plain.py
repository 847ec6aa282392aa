"""The worths of a sheet at a point."""

from whysheets.errors import NotOpen
from whysheets.frames import spot_key
from whysheets.knotting import is_ring
from whysheets.running import run_through, settles, work
from whysheets.wanting import sound_frame, want_cell_spot, want_expression, want_point, want_spot


def worth(sheet, point, spot):
    """The worth of a spot at a point; None if it is open."""
    frame = sound_frame(sheet)
    want_point(frame, point)
    want_spot(frame, spot)
    return run_through(frame, point).known[spot]


def worths(sheet, point):
    """The dict from all spots to their worths at a point."""
    run = run_at(sheet, point)
    return {spot: run.known[spot] for spot in run.frame.spots}


def expression_worth(sheet, point, expression):
    """The worth that the cell of an expression would have."""
    frame = sound_frame(sheet)
    want_point(frame, point)
    want_expression(frame, expression)
    return work(run_through(frame, point), expression, None, {})


def open_spots(sheet, point):
    """The tuple of the spots whose worth is open."""
    run = run_at(sheet, point)
    return tuple([spot for spot in run.frame.spots if run.known[spot] is None])


def why_open(sheet, point, spot):
    """The shortest tuple of open spots that leads from one to a ring that does not settle."""
    frame = sound_frame(sheet)
    want_point(frame, point)
    want_spot(frame, spot)
    run = run_through(frame, point)
    if run.known[spot] is not None:
        raise NotOpen("the worth is not open")
    ways = {spot: (spot,)}
    waiting = [spot]
    # Ways are lengthened in their order, so the first one that ends well is the least.
    while not is_unsettled(run, waiting[0]):
        one = waiting.pop(0)
        for other in looks_of(run, one):
            if run.known[other] is None and other not in ways:
                ways[other] = ways[one] + (other,)
                waiting.append(other)
    return ways[waiting[0]]


def looked_at(sheet, point, spot):
    """The tuple of the spots at which the worth of a cell spot directly looks at a point."""
    frame = sound_frame(sheet)
    want_point(frame, point)
    want_cell_spot(frame, spot)
    return tuple(looks_of(run_through(frame, point), spot))


def run_at(sheet, point):
    """The worths of a sound sheet at a point, and how they came about."""
    frame = sound_frame(sheet)
    want_point(frame, point)
    return run_through(frame, point)


def looks_of(run, spot):
    """The ascending list of the spots at which the worth of a cell spot looks."""
    return sorted(run.looks[run.knotting.homes[spot]], key=spot_key)


def is_unsettled(run, spot):
    """Whether a spot is a cell of a ring that does not settle."""
    knot = run.knotting.homes[spot]
    return is_ring(knot) and not settles(run, knot)
