"""What the names of a sheet stand for, and the spots that its expressions name.

Nothing here asks whether a sheet has faults. If a name stands at several inputs
or cells, the first of them counts.
"""

from whysheets.shapes import parts_of
from whysheets.values import is_number, is_tuple_of

OF_ROWS = ("sum", "fewest", "most")


class Frame:
    """A sheet with what its names stand for."""

    def __init__(self, sheet):
        self.sheet = sheet
        self.things = {}
        for thing in sheet[1] + sheet[2]:
            if thing[1] not in self.things:
                self.things[thing[1]] = thing
        # The number of items of each row.
        self.counts = {name: thing[2] for name, thing in self.things.items() if thing[0] == "row"}
        self.spots = all_spots(self)
        # What the spots read, as far as it has been asked for.
        self.read = {}


def all_spots(frame):
    """The ascending list of all spots."""
    found = []
    for name in sorted(frame.things):
        if name not in frame.counts:
            found.append(name)
    for name in sorted(frame.counts):
        found.extend(items_of(frame, name))
    return found


def items_of(frame, name):
    """The list of all items of a row; none of what is no row."""
    return [(name, k + 1) for k in range(frame.counts.get(name, 0))]


def is_row(frame, name):
    """Whether a name stands for a row."""
    return name in frame.counts


def word_of(frame, name):
    """The word of the input or cell for which a name stands; "unknown" for none."""
    return frame.things[name][0] if name in frame.things else "unknown"


def has_item(frame, name, number):
    """Whether a name stands for a row that has the item of this number."""
    return 1 <= number <= frame.counts.get(name, 0)


def spot_key(spot):
    """What brings spots into order: names ahead of pairs."""
    return (1, spot[0], spot[1]) if isinstance(spot, tuple) else (0, spot, 0)


def is_spot(frame, thing):
    """Whether any value is a spot of the sheet."""
    if isinstance(thing, str):
        return thing in frame.things and not is_row(frame, thing)
    if not is_tuple_of(thing, 2) or not isinstance(thing[0], str) or not is_number(thing[1]):
        return False
    return has_item(frame, thing[0], thing[1])


def is_cell_spot(frame, thing):
    """Whether any value is a spot of the sheet that is no input's."""
    return is_spot(frame, thing) and thing_of(frame, thing)[0] != "input"


def name_of(spot):
    """The name of the input or cell that has a spot."""
    return spot[0] if isinstance(spot, tuple) else spot


def thing_of(frame, spot):
    """The input or cell that has a spot."""
    return frame.things[name_of(spot)]


def reads_of(frame, spot):
    """The ascending list of the spots that a spot's own expression names."""
    if spot not in frame.read:
        thing = thing_of(frame, spot)
        number = spot[1] if thing[0] == "row" else None
        frame.read[spot] = [] if thing[0] == "input" else named_by(frame, thing[-1], number)
    return frame.read[spot]


def start_reads_of(frame, name):
    """The ascending list of the spots that a settling cell's start names; none of other spots."""
    if word_of(frame, name_of(name)) != "settle":
        return []
    return named_by(frame, thing_of(frame, name)[4], None)


def named_by(frame, expression, number):
    """The ascending list of the spots that an expression names, at work for the item of this number."""
    found = {}
    waiting = [expression]
    while waiting:
        one = waiting.pop()
        own = own_spots(frame, one, number)
        for spot in own:
            found[spot] = True
        # Of an item some places away the last part counts only where there is no such item.
        if one[0] != "at" or not own:
            waiting.extend([part for _, part in parts_of(one)])
    return sorted(found, key=spot_key)


def own_spots(frame, expression, number):
    """The spots that an expression itself names, without its parts."""
    word = expression[0]
    if word == "name":
        name = expression[1]
        return [name] if name in frame.things and not is_row(frame, name) else []
    if word in OF_ROWS:
        return items_of(frame, expression[1])
    if word == "item" and has_item(frame, expression[1], expression[2]):
        return [(expression[1], expression[2])]
    if word == "at" and has_item(frame, expression[1], number + expression[2]):
        return [(expression[1], number + expression[2])]
    return []
