"""Worths at many points and stretches over many boxes.

Each knot is worked out once for the same worths, or stretches, of what it reads.
"""

from whysheets.frames import reads_of, start_reads_of
from whysheets.knotting import Knotting, is_input, is_ring, ordered, reached_from, spots_in
from whysheets.running import Run, finish
from whysheets.stretching import Spread, finish_spread, input_stretches


class Steps:
    """The knots that lead to some spots, in the order in which they are worked out."""

    def __init__(self, frame, spots):
        self.spots = spots
        self.knotting = Knotting(frame)
        needed = {}
        for spot in spots:
            needed[self.knotting.homes[spot]] = True
            for knot in reached_from(self.knotting.homes[spot], self.knotting.reads):
                needed[knot] = True
        self.knots = [knot for knot in ordered(self.knotting) if knot in needed]
        # The ascending list of the inputs that lead to the spots.
        self.names = sorted([knot for knot in needed if is_input(frame, knot)])
        self.reads = {knot: outer_reads(frame, knot) for knot in self.knots}


class Table:
    """The worths of some spots at points."""

    def __init__(self, frame, spots):
        self.steps = Steps(frame, spots)
        self.made = {knot: {} for knot in self.steps.knots}
        # The worths of the spots, by the numbers of the inputs that lead to them.
        self.known = {}

    def worths_at(self, point):
        """The tuple of the worths of the spots at a point."""
        numbers = tuple([point[name] for name in self.steps.names])
        if numbers not in self.known:
            run = Run(self.steps.knotting, {name: point[name] for name in self.steps.names})
            self.known[numbers] = gone_through(self.steps, run, finish, self.made)
        return self.known[numbers]


class SpanTable:
    """The stretches of some spots over boxes."""

    def __init__(self, frame, spots):
        self.steps = Steps(frame, spots)
        self.made = {knot: {} for knot in self.steps.knots}

    def stretches_over(self, box):
        """The tuple of the stretches of the spots over a box."""
        spread = Spread(self.steps.knotting, input_stretches(box))
        return gone_through(self.steps, spread, finish_spread, self.made)


def outer_reads(frame, knot):
    """The list of the spots outside of a knot on which its worths depend."""
    found = {}
    for spot in spots_in(knot):
        starts = start_reads_of(frame, spot) if is_ring(knot) else []
        for one in reads_of(frame, spot) + starts:
            found[one] = True
    return [one for one in found if one not in spots_in(knot)]


def gone_through(steps, job, finisher, made):
    """What is known of the spots when all knots that lead to them are worked out, or taken from what was made."""
    known = job.known
    for knot in steps.knots:
        key = tuple([known[spot] for spot in steps.reads[knot]])
        done = made[knot]
        if key not in done:
            finisher(job, knot)
            done[key] = tuple([known[spot] for spot in spots_in(knot)])
        for k, spot in enumerate(spots_in(knot)):
            known[spot] = done[key][k]
    return tuple([known[spot] for spot in steps.spots])
