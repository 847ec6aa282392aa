"""The spots that the expressions of a sheet name."""

from whysheets.errors import BadSheet, BadSpot
from whysheets.frames import Frame, is_spot, reads_of, start_reads_of, word_of
from whysheets.trees import is_sheet


def reads(sheet, spot):
    """The ascending tuple of the spots that a spot's own expression names."""
    if not is_sheet(sheet):
        raise BadSheet("no sheet")
    frame = Frame(sheet)
    if not is_spot(frame, spot):
        raise BadSpot("no spot of the sheet")
    return tuple(reads_of(frame, spot))


def start_reads(sheet, name):
    """The ascending tuple of the spots that the start of a settling cell names."""
    if not is_sheet(sheet):
        raise BadSheet("no sheet")
    frame = Frame(sheet)
    if not isinstance(name, str) or word_of(frame, name) != "settle":
        raise BadSpot("no name of a settling cell")
    return tuple(start_reads_of(frame, name))
