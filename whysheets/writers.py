"""Two writers of a sheet, each with a lot of changes, and promises that the sheet has to keep."""

from whysheets.differences import want_two
from whysheets.errors import BadLot, BadSheet, Broken, Collides, NotGood, Unfit
from whysheets.keeping import Keeping, want_promises
from whysheets.lots import both_changes, do_meet, does_fit, is_lot, name_changed, sheet_changed
from whysheets.trees import is_sheet
from whysheets.wanting import sound_frame


def changed(sheet, lot):
    """The sheet to which a lot leads."""
    if not is_sheet(sheet):
        raise BadSheet("no sheet")
    want_lot_of_changes(lot)
    if not does_fit(sheet, lot):
        raise Unfit("the lot does not fit the sheet")
    return sheet_changed(sheet, lot)


def want_lot_of_changes(lot):
    """Raises BadLot for what is no lot."""
    if not is_lot(lot):
        raise BadLot("no lot of changes")


def lot_between(old, new):
    """The least lot that leads from one sheet to another one, but for the order of its cells."""
    want_two(old, new)
    ahead = {cell[1]: cell for cell in old[2]}
    behind = {cell[1]: cell for cell in new[2]}
    found = {name: ("gone", name) for name in ahead if name not in behind}
    for name in behind:
        if name not in ahead or ahead[name] != behind[name]:
            found[name] = ("cell", behind[name])
    for at, thing in enumerate(new[1]):
        if thing != old[1][at]:
            found[thing[1]] = ("range", thing[1], thing[2], thing[3])
    return tuple([found[name] for name in sorted(found)])


def breach(sheet, promises):
    """How a sheet breaks promises; None if it keeps them."""
    if not is_sheet(sheet):
        raise BadSheet("no sheet")
    want_promises(promises)
    return Keeping(promises).breach_of(sheet)


class Writing:
    """A sheet that keeps promises, and two good lots for it."""

    def __init__(self, sheet, promises, one, other):
        self.sheet_told = sheet
        self.keeping = Keeping(promises)
        self.one = one
        self.other = other
        self.changes = list(one) + [change for change in other if change not in one]
        # For each ascending tuple of indexes of changes whether they are a good lot.
        self.made = {}

    def is_good(self, lot):
        """Whether a lot of some of the changes is good."""
        key = tuple([k for k, change in enumerate(self.changes) if change in lot])
        if key not in self.made:
            self.made[key] = False
            if does_fit(self.sheet_told, lot):
                self.made[key] = self.keeping.breach_of(sheet_changed(self.sheet_told, lot)) is None
        return self.made[key]

    def are_joined(self, one, other):
        """Whether two lots do not meet and are together good."""
        return not do_meet(one, other) and self.is_good(both_changes(one, other))

    def good_parts(self, lot):
        """The list of the good parts of a lot."""
        parts = [()]
        for change in lot:
            parts = parts + [part + (change,) for part in parts]
        return [part for part in parts if self.is_good(part)]

    def first_collision(self):
        """The collision with the fewest changes, the fewest ones of the first lot, and the least names."""
        pairs = []
        for first in self.good_parts(self.one):
            for second in self.good_parts(self.other):
                counts = (len(first) + len(second), len(first))
                pairs.append((counts, names_changed(first), names_changed(second), (first, second)))
        for _, _, _, pair in sorted(pairs, key=lambda told: (told[0], told[1], told[2])):
            if not self.are_joined(pair[0], pair[1]):
                return pair
        return None


def names_changed(lot):
    """The tuple of the names of a lot's changes."""
    return tuple([name_changed(change) for change in lot])


def writing_of(sheet, promises, one, other):
    """The writing of two lots; BadSheet, Faulty, BadPromises, Broken, BadLot, NotGood."""
    sound_frame(sheet)
    want_promises(promises)
    found = Keeping(promises).breach_of(sheet)
    if found is not None:
        raise Broken(found)
    want_lot_of_changes(one)
    want_lot_of_changes(other)
    writing = Writing(sheet, promises, one, other)
    for number, lot in ((1, one), (2, other)):
        if not writing.is_good(lot):
            raise NotGood(number)
    return writing


def collision(sheet, promises, one, other):
    """The first collision of two lots; None if they have none."""
    return writing_of(sheet, promises, one, other).first_collision()


def joined(sheet, promises, one, other):
    """The sheet to which two lots lead together."""
    writing = writing_of(sheet, promises, one, other)
    if not writing.are_joined(one, other):
        first, second = writing.first_collision()
        raise Collides(first, second)
    return sheet_changed(sheet, both_changes(one, other))
