"""Rings and knots of a sound sheet, and the order in which they are worked out."""

from whysheets.frames import name_of, reads_of, spot_key, start_reads_of, thing_of


class Knotting:
    """The knots of a sound sheet, ascending, and what each of them reads."""

    def __init__(self, frame):
        self.frame = frame
        self.rings = rings_of(frame)
        # The knot of each spot.
        self.homes = {spot: spot for spot in frame.spots}
        for ring in self.rings:
            for cell in ring:
                self.homes[cell] = ring
        self.knots = sorted({self.homes[spot]: True for spot in frame.spots}, key=knot_key)
        self.reads = {knot: knot_reads(self, knot) for knot in self.knots}


def rings_of(frame):
    """The ascending list of the rings, each the ascending tuple of its cells."""
    cells = [spot for spot in frame.spots if is_settling(frame, spot)]
    steps = {cell: [one for one in reads_of(frame, cell) if is_settling(frame, one)] for cell in cells}
    reached = {cell: reached_from(cell, steps) for cell in cells}
    found = {}
    for cell in cells:
        if cell in reached[cell]:
            found[tuple([one for one in cells if one in reached[cell] and cell in reached[one]])] = True
    return sorted(found)


def is_settling(frame, spot):
    """Whether a spot is a settling cell."""
    return thing_of(frame, spot)[0] == "settle"


def reached_from(begin, steps):
    """The dict of all to which one or more steps lead."""
    found = {}
    waiting = [begin]
    while waiting:
        here = waiting.pop()
        for one in steps[here]:
            if one not in found:
                found[one] = True
                waiting.append(one)
    return found


def is_ring(knot):
    """Whether a knot is a ring; a pair of a row and a number is none."""
    return isinstance(knot, tuple) and isinstance(knot[-1], str)


def knot_key(knot):
    """What brings knots into order: names and rings ahead of pairs."""
    return spot_key(knot[0]) if is_ring(knot) else spot_key(knot)


def spots_in(knot):
    """The list of the spots of a knot."""
    return list(knot) if is_ring(knot) else [knot]


def is_input(frame, knot):
    """Whether a knot is an input."""
    return not is_ring(knot) and frame.things[name_of(knot)][0] == "input"


def knot_reads(knotting, knot):
    """The ascending list of the other knots that a knot reads."""
    frame = knotting.frame
    found = {}
    for spot in spots_in(knot):
        starts = start_reads_of(frame, spot) if is_ring(knot) else []
        for one in reads_of(frame, spot) + starts:
            if knotting.homes[one] != knot:
                found[knotting.homes[one]] = True
    return sorted(found, key=knot_key)


def knot_readers(knotting):
    """The dict from each knot to the ascending list of the knots that read it."""
    found = {knot: [] for knot in knotting.knots}
    for knot in knotting.knots:
        for one in knotting.reads[knot]:
            found[one].append(knot)
    return found


def ordered(knotting):
    """The list of all knots that are no inputs, always the least that can come next."""
    readers = knot_readers(knotting)
    waits = {knot: len(knotting.reads[knot]) for knot in knotting.knots}
    ready = [knot for knot in knotting.knots if waits[knot] == 0]
    found = []
    # Inputs wait for nothing and are not told, so they come ahead of all others.
    while ready:
        inputs = [knot for knot in ready if is_input(knotting.frame, knot)]
        knot = inputs[0] if inputs else min(ready, key=knot_key)
        ready.remove(knot)
        if not inputs:
            found.append(knot)
        for one in readers[knot]:
            waits[one] -= 1
            if waits[one] == 0:
                ready.append(one)
    return found
