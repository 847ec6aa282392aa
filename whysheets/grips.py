"""Which inputs one hand needs to bring a wish about, or to keep it from being granted."""

from whysheets.errors import BadGroup, BadNames
from whysheets.gaming import MINE, OTHER, Board, Playing, are_all_inputs, no_costs, want_wish
from whysheets.orders import subsets
from whysheets.values import is_rising, is_tuple_of
from whysheets.wanting import sound_frame


class Hold:
    """A wish, and the sequence in which the inputs are set."""

    def __init__(self, frame, names, wish):
        self.names = names
        self.board = Board(frame, names, wish[0])
        self.first = self.board.truth_of(wish)

    def has_plan(self, group):
        """Whether "mine" has a plan if it sets just a group."""
        hands = [MINE if name in group else OTHER for name in self.names]
        return Playing(self.board, hands, no_costs(self.board.order)).price_from(self.first) is not None

    def has_spoiler(self, group):
        """Whether "other" has a spoiler if it sets just a group."""
        return not self.has_plan([name for name in self.names if name not in group])


def hold_of(sheet, names, wish):
    """The hold for a wish; BadSheet, Faulty, BadNames, BadWish."""
    frame = sound_frame(sheet)
    if not is_tuple_of(names, len(frame.sheet[1])) or not are_all_inputs(frame, list(names)):
        raise BadNames("no tuple of all inputs")
    want_wish(frame, wish)
    return Hold(frame, names, wish)


def want_group(hold, group):
    """Raises BadGroup for what is no ascending tuple of different inputs."""
    if not isinstance(group, tuple) or not all([isinstance(name, str) and name in hold.names for name in group]):
        raise BadGroup("no tuple of inputs")
    if not is_rising(group):
        raise BadGroup("not ascending")


def is_grip(sheet, names, wish, group):
    """Whether "mine", setting just a group, has a plan."""
    hold = hold_of(sheet, names, wish)
    want_group(hold, group)
    return hold.has_plan(group)


def is_lock(sheet, names, wish, group):
    """Whether "other", setting just a group, has a spoiler."""
    hold = hold_of(sheet, names, wish)
    want_group(hold, group)
    return hold.has_spoiler(group)


def grips(sheet, names, wish):
    """The ascending tuple of all least grips."""
    hold = hold_of(sheet, names, wish)
    return least_groups([group for group in subsets(sorted(names)) if hold.has_plan(group)])


def locks(sheet, names, wish):
    """The ascending tuple of all least locks."""
    hold = hold_of(sheet, names, wish)
    return least_groups([group for group in subsets(sorted(names)) if hold.has_spoiler(group)])


def least_groups(groups):
    """The ascending tuple of those of some groups of which no other one is a part."""
    known = {group: True for group in groups}
    found = []
    # With a further input a grip stays a grip, and a lock a lock, so one less tells enough.
    for group in groups:
        if not any([group[:k] + group[k + 1:] in known for k in range(len(group))]):
            found.append(group)
    return tuple(sorted(found))
