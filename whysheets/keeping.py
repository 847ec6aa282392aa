"""Whether sheets keep promises."""

from whysheets.boxes import whole_of
from whysheets.claiming import case_of
from whysheets.errors import BadPromises
from whysheets.faults import faults_of
from whysheets.frames import Frame, word_of
from whysheets.kinding import TRUTH, kind_of_thing
from whysheets.making import all_numbers
from whysheets.order import kept_cells
from whysheets.texts import sheet_text
from whysheets.values import is_list
from whysheets.words import is_name


def want_promises(promises):
    """Raises BadPromises for what is no list of different names."""
    if not is_list(promises) or not all([is_name(name) for name in promises]):
        raise BadPromises("no list of names")
    if len({name: True for name in promises}) < len(promises):
        raise BadPromises("a name stands twice")


class Keeping:
    """Tells of sheets whether they keep some promises; what a promise hangs on is looked at once."""

    def __init__(self, promises):
        self.promises = list(promises)
        self.made = {}

    def breach_of(self, sheet):
        """How a sheet breaks the promises; None if it keeps them."""
        frame = Frame(sheet)
        found = faults_of(frame)
        if found:
            return ("fault", found[0])
        for name in self.promises:
            if word_of(frame, name) != "cell" or kind_of_thing(frame, name) != TRUTH:
                return ("lacking", name)
            # Where no point breaks it, the cells behind a promise tell so for other sheets as well.
            needed = ("sheet", sheet[1], kept_cells(frame, [name]))
            key = (name, sheet_text(needed))
            if key not in self.made:
                self.made[key] = breaking_numbers(Frame(needed), name)
            if self.made[key] is not None:
                numbers = {thing[1]: self.made[key][k] for k, thing in enumerate(sheet[1])}
                return ("point", name, {one: numbers[one] for one in sorted(numbers)})
        return None


def breaking_numbers(frame, name):
    """The numbers, in the order of the inputs, of the least point at which a cell is not 1; None if there is none."""
    case = case_of(frame, (((name, (1,), False),), None))
    # Often the stretch over all points tells it at once.
    if case.is_right_leaf("bounds", whole_of(frame)):
        return None
    rows = []
    for _, one, low, high in frame.sheet[1]:
        rows.append(list(range(low, (high if one in case.table.steps.names else low) + 1)))
    for numbers in all_numbers(rows):
        point = {thing[1]: numbers[k] for k, thing in enumerate(frame.sheet[1])}
        if case.breaks_at(point):
            return numbers
    return None
