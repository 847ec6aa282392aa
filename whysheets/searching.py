"""Looking for points that break claims, and for papers that show them."""

from whysheets.boxes import points_of, with_number


def breaking_point(case, box):
    """The least point in a box that breaks a claim; None if none does."""
    names = case.table.steps.names
    # Without a distance only the inputs that lead to the wishes matter.
    own = {name: box[name] if case.far is not None or name in names else box[name][:1] for name in box}
    for point in points_of(own):
        if case.breaks_at(point):
            return point
    return None


def paper_over(case, box):
    """A right paper for a claim that is so over a box."""
    for word in ("bounds", "far", "point"):
        if case.is_right_leaf(word, box):
            return (word,)
    name = next_name(case, box)
    half = len(box[name]) // 2
    parts = []
    for numbers in (box[name][:half], box[name][half:]):
        parts.append((numbers, paper_over(case, with_number(box, name, numbers))))
    return ("split", name, tuple(parts))


def next_name(case, box):
    """The input with the most numbers, of those that lead to the wishes if one of them has several."""
    names = [name for name in case.table.steps.names if len(box[name]) > 1]
    counts = [len(box[name]) for name in names or sorted(box)]
    return (names or sorted(box))[counts.index(max(counts))]
