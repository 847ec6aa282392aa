"""The fewest edits that lead from one sheet to another one.

A cell that stands in both sheets may be kept, at no edit or at one that sets it; any
other one is dropped or added, at an edit each. Which cells are kept is a matter of
their order: those that are kept must stand in the same order in both sheets.
"""

from whysheets.editing import index_of, inputs_range
from whysheets.errors import OtherInputs
from whysheets.wanting import sound_frame


def difference(old, new):
    """A shortest list of edits that leads from one sheet to another one with the same inputs' names."""
    want_two(old, new)
    kept = kept_names(old, new)
    found = [inputs_range(thing) for at, thing in enumerate(new[1]) if thing != old[1][at]]
    for cell in new[2]:
        if cell[1] in kept and cell not in old[2]:
            found.append(("set", cell))
    drops = [("drop", cell[1]) for cell in old[2] if cell[1] not in kept]
    adds = [("add", at, cell) for at, cell in enumerate(new[2]) if cell[1] not in kept]
    # Where no cell is kept no name is in both sheets, and one cell must always be left.
    return found + drops + adds if kept else found + adds + drops


def want_two(old, new):
    """BadSheet or Faulty for one sheet, then for the other one, then OtherInputs."""
    sound_frame(old)
    sound_frame(new)
    if [thing[1] for thing in old[1]] != [thing[1] for thing in new[1]]:
        raise OtherInputs("the inputs have other names")


def kept_names(old, new):
    """The list of the names of the cells that are best kept."""
    best = []
    # For each cell of the new sheet what is saved at the most if it is the last one kept, and those kept.
    ends = []
    for cell in new[2]:
        place = index_of(old[2], cell[1])
        if place is not None:
            saved = 2 if old[2][place] == cell else 1
            ahead = [one for one in ends if one[0] < place]
            most = max([one[1] for one in ahead]) if ahead else 0
            names = [one[2] for one in ahead if one[1] == most][0] if ahead else []
            ends.append((place, most + saved, names + [cell[1]]))
    if ends:
        most = max([one[1] for one in ends])
        best = [one[2] for one in ends if one[1] == most][0]
    return best


def distance(old, new):
    """How many edits lead from one sheet to another one at the least."""
    return len(difference(old, new))
