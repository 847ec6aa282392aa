"""Sessions: a sheet and a point that are changed step by step, with all worths kept."""

from whysheets.editing import point_behind_edit, sheets_along
from whysheets.errors import BadNumbers, NothingDone, NothingUndone
from whysheets.frames import Frame
from whysheets.knotting import Knotting
from whysheets.renewing import renewed
from whysheets.running import run_through
from whysheets.values import is_number_from
from whysheets.wanting import sound_frame, want_point, want_spot


class Session:
    """Begins with a sheet and a point; each put and each edit can be undone."""

    def __init__(self, sheet, point):
        frame = sound_frame(sheet)
        want_point(frame, point)
        # What is known behind each put and edit that is done or undone; the present one is that of the index.
        self.runs = [run_through(frame, point)]
        self.index = 0

    def sheet(self):
        """The present sheet."""
        return self.runs[self.index].frame.sheet

    def point(self):
        """The present point."""
        known = self.runs[self.index].known
        return {name: known[name] for name in sorted([thing[1] for thing in self.sheet()[1]])}

    def worth(self, spot):
        """The worth of a spot; None if it is open."""
        run = self.runs[self.index]
        want_spot(run.frame, spot)
        return run.known[spot]

    def worths(self):
        """The dict from all spots to their worths."""
        run = self.runs[self.index]
        return {spot: run.known[spot] for spot in run.frame.spots}

    def put(self, numbers):
        """Gives some inputs numbers, and returns the knots that are worked out anew."""
        run = self.runs[self.index]
        if not are_input_numbers(run.frame, numbers):
            raise BadNumbers("no dict from inputs to numbers of their ranges")
        point = self.point()
        for name in numbers:
            point[name] = numbers[name]
        return self.go_on(run.knotting, point)

    def edit(self, edits):
        """Gives the sheet edits, and returns the knots that are worked out anew."""
        along = sheets_along(self.sheet(), edits)
        point = self.point()
        for at, edit in enumerate(edits):
            point = point_behind_edit(along[at], point, edit)
        return self.go_on(Knotting(Frame(along[-1])), point)

    def go_on(self, knotting, point):
        """The next step; what was undone can no more be done again."""
        run, anew = renewed(self.runs[self.index], knotting, point)
        self.runs = self.runs[:self.index + 1] + [run]
        self.index += 1
        return tuple(anew)

    def undo(self):
        """Goes back ahead of the last put or edit."""
        if self.done() == 0:
            raise NothingDone("nothing can be undone")
        self.index -= 1

    def redo(self):
        """Takes back the last undo."""
        if self.undone() == 0:
            raise NothingUndone("nothing is undone")
        self.index += 1

    def done(self):
        """How many puts and edits can be undone."""
        return self.index

    def undone(self):
        """How many undos can be taken back."""
        return len(self.runs) - 1 - self.index


def are_input_numbers(frame, thing):
    """Whether any value is a dict from some inputs to numbers of their ranges."""
    if not isinstance(thing, dict):
        return False
    ranges = {name: (low, high) for _, name, low, high in frame.sheet[1]}
    for name in thing:
        if not isinstance(name, str) or name not in ranges:
            return False
        if not is_number_from(thing[name], ranges[name][0], ranges[name][1]):
            return False
    return True
