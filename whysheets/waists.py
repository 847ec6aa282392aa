"""Where all ways from some inputs to some spots are narrowest."""

from whysheets.errors import BadInputs, BadSpots
from whysheets.flows import Flow, narrowest, ways_of
from whysheets.frames import is_spot
from whysheets.knotting import Knotting, knot_readers
from whysheets.values import is_list
from whysheets.wanting import sound_frame


def waist(sheet, inputs, spots):
    """A tuple of as few knots as can be that has one of each way from the inputs to the spots."""
    knotting = checked(sheet, inputs, spots)
    firsts, lasts = ends_of(knotting, inputs, spots)
    flow = Flow(len(knotting.knots), steps_of(knotting), firsts, lasts)
    return tuple([knotting.knots[k] for k in narrowest(flow)])


def ways_apart(sheet, inputs, spots):
    """A list of as many ways from the inputs to the spots as can be without a common knot."""
    knotting = checked(sheet, inputs, spots)
    firsts, lasts = ends_of(knotting, inputs, spots)
    flow = Flow(len(knotting.knots), steps_of(knotting), firsts, lasts)
    return [tuple([knotting.knots[k] for k in way]) for way in ways_of(flow, firsts)]


def checked(sheet, inputs, spots):
    """The knotting of a sound sheet; BadInputs, then BadSpots."""
    frame = sound_frame(sheet)
    if not are_different_spots(frame, inputs) or not all([is_input_name(frame, name) for name in inputs]):
        raise BadInputs("no list of different names of inputs")
    if not are_different_spots(frame, spots):
        raise BadSpots("no list of different spots")
    return Knotting(frame)


def are_different_spots(frame, thing):
    """Whether any value is a list of one or more different spots."""
    if not is_list(thing) or not thing or not all([is_spot(frame, spot) for spot in thing]):
        return False
    return len({spot: True for spot in thing}) == len(thing)


def is_input_name(frame, spot):
    """Whether a spot is an input."""
    return isinstance(spot, str) and frame.things[spot][0] == "input"


def ends_of(knotting, inputs, spots):
    """The ascending lists of the places, among all knots, of the inputs' and the spots' knots."""
    places = {knot: k for k, knot in enumerate(knotting.knots)}
    firsts = {places[knotting.homes[name]]: True for name in inputs}
    lasts = {places[knotting.homes[spot]]: True for spot in spots}
    return sorted(firsts), sorted(lasts)


def steps_of(knotting):
    """For each knot the list of the places of those that read it."""
    places = {knot: k for k, knot in enumerate(knotting.knots)}
    readers = knot_readers(knotting)
    return [[places[one] for one in readers[knot]] for knot in knotting.knots]
