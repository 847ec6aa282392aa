"""Whether worths are numbers or truths."""

from whysheets.kinding import kind_in, kind_of_thing
from whysheets.wanting import sound_frame, want_expression


def kinds(sheet):
    """The dict from the names of all inputs and cells to their kinds."""
    frame = sound_frame(sheet)
    return {name: kind_of_thing(frame, name) for name in sorted(frame.things)}


def kind_of(sheet, expression):
    """The kind of an expression that could be the one of a further cell."""
    frame = sound_frame(sheet)
    want_expression(frame, expression)
    return kind_in(frame, expression)
