"""What is wrong with a sheet beyond its form."""

from whysheets.circles import wrong_round
from whysheets.errors import BadSheet
from whysheets.frames import Frame
from whysheets.kinding import part_faults
from whysheets.trees import is_sheet


def faults(sheet):
    """The list of all faults of a sheet."""
    if not is_sheet(sheet):
        raise BadSheet("no sheet")
    return faults_of(Frame(sheet))


def is_sound(sheet):
    """Whether a sheet has no faults."""
    return not faults(sheet)


def faults_of(frame):
    """The list of all faults of the sheet of a frame."""
    found = []
    met = {}
    for group in (1, 2):
        for at, thing in enumerate(frame.sheet[group]):
            path = (group, at)
            if thing[1] in met:
                found.append((path, "again", thing[1]))
            met[thing[1]] = True
            found.extend(part_faults(frame, thing, path))
    if found:
        return found
    wrong = wrong_round(frame)
    return [] if wrong is None else [((), "round", wrong)]
