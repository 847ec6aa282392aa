"""Working out a sheet anew where something looked at has changed."""

from whysheets.frames import is_row, thing_of
from whysheets.knotting import is_ring, ordered, spots_in
from whysheets.running import Run, finish
from whysheets.shapes import names_in


def renewed(old, knotting, point):
    """The run of a sheet at a point behind another run, and the list of the knots that it works out anew."""
    run = Run(knotting, {name: point[name] for name in point})
    anew = []
    for knot in ordered(knotting):
        if must_renew(old, run, knot):
            finish(run, knot)
            anew.append(knot)
        else:
            take_over(old, run, knot)
    return run, anew


def must_renew(old, run, knot):
    """Whether a knot is worked out anew; all that it reads is known."""
    if knot not in old.looks:
        return True
    for spot in spots_in(knot):
        thing = thing_of(run.frame, spot)
        if thing != thing_of(old.frame, spot) or any([is_other_row(old, run, name) for name in names_in(thing)]):
            return True
    own = spots_in(knot)
    return any([run.known[spot] != old.known[spot] for spot in old.looks[knot] if spot not in own])


def is_other_row(old, run, name):
    """Whether a name stands for a row that had another count, or was no row."""
    return is_row(run.frame, name) and old.frame.counts.get(name, 0) != run.frame.counts[name]


def take_over(old, run, knot):
    """Takes over what is known of a knot that is not worked out anew."""
    run.looks[knot] = old.looks[knot]
    if is_ring(knot):
        run.turns[knot] = old.turns[knot]
    for spot in spots_in(knot):
        run.known[spot] = old.known[spot]
