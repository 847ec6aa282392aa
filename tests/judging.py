"""Claims and papers told once more, by points 6 and 64 to 67 alone."""

from tests.reckoning import Reckoner, Spreader


def grants(wish, worth):
    return (worth in wish[1]) if wish[2] else (worth not in wish[1])


def grants_all(sheet, point, wishes):
    told = Reckoner(sheet, point)
    return all(grants(wish, told.worth(wish[0])) for wish in wishes)


def dear(point, prices, other):
    return sum(prices[name] * abs(point[name] - other[name]) for name in prices)


def does_break(sheet, point, claim):
    wishes, far = claim
    return grants_all(sheet, point, wishes) and (far is None or dear(far[0], far[1], point) < far[2])


def box_points(box):
    points = [{}]
    for name in sorted(box):
        points = [{**point, name: number} for point in points for number in box[name]]
    return points


def let_by(stretch):
    """All worths that a stretch allows."""
    low, high, may = stretch
    return ([] if low is None else list(range(low, high + 1))) + ([None] if may else [])


def is_denied(stretch, wish):
    return not any(grants(wish, worth) for worth in let_by(stretch))


def is_right_leaf(sheet, box, claim, word):
    wishes, far = claim
    if word == "bounds":
        spread = Spreader(sheet, box)
        return any(is_denied(spread.stretch(wish[0]), wish) for wish in wishes)
    if word == "far":
        return far is not None and all(dear(far[0], far[1], point) >= far[2] for point in box_points(box))
    points = box_points(box)
    return len(points) == 1 and not does_break(sheet, points[0], claim)


def is_right_split(box, name, parts):
    have = [set(numbers) for numbers, _ in parts]
    whole = set(box[name])
    return all(one < whole for one in have) and set().union(*have) == whole


def wrong_ones(sheet, box, claim, paper, path=()):
    """The pairs of the path and the word of all papers that are wrong, but none within a wrong one."""
    if paper[0] != "split":
        return [] if is_right_leaf(sheet, box, claim, paper[0]) else [(path, paper[0])]
    _, name, parts = paper
    if not is_right_split(box, name, parts):
        return [(path, "split")]
    found = []
    for k, (numbers, inner) in enumerate(parts):
        found += wrong_ones(sheet, {**box, name: numbers}, claim, inner, path + (k,))
    return found


def leaves_of(paper):
    return 1 if paper[0] != "split" else sum(leaves_of(inner) for _, inner in paper[2])


def sure_claim(maker, sheet, box):
    """A claim that is so over a box, often one that a single leaf does not show."""
    wishes = tuple(maker.wish(sheet) for _ in range(maker.number(1, 2)))
    points = box_points(box)
    granting = [point for point in points if grants_all(sheet, point, wishes)]
    if not granting:
        return (wishes, None)
    if maker.chance(2):
        point, prices = maker.point(sheet), maker.prices(sheet)
        return (wishes, (point, prices, min(dear(point, prices, one) for one in granting)))
    spot = wishes[0][0]
    worths = {Reckoner(sheet, point).worth(spot) for point in points}
    numbers = [worth for worth in worths if worth is not None]
    gaps = [n for n in range(min(numbers), max(numbers)) if n not in worths] if numbers else []
    if gaps:
        return (((spot, tuple(gaps[:5]), True),), None)
    return (((spot, tuple(sorted(numbers)) + ((None,) if None in worths else ()), False),), None)


def some_paper(maker, sheet, box, deep, wrong_in=0):
    """A paper whose splits are right, but about one in wrong_in of them."""
    names = [name for name in sorted(box) if len(box[name]) > 1]
    if deep == 0 or not names or maker.chance(3):
        single = not names
        return (maker.one_of(("point", "bounds") if single else ("bounds", "far", "bounds")),)
    name = maker.one_of(names)
    numbers = box[name]
    parts = []
    left = maker.shuffled(numbers)
    while left:
        many = maker.number(1, min(len(left), len(numbers) - 1))
        part = set(left[:many])
        left = left[many:]
        if maker.chance(4) and len(part) + 1 < len(numbers):
            part.add(maker.one_of(numbers))
        parts.append(tuple(sorted(part)))
    if wrong_in and maker.chance(wrong_in):
        spoil = maker.below(3)
        if spoil == 0:
            parts = parts[1:] + [numbers]
        elif spoil == 1 and len(parts) > 2:
            parts = parts[1:]
        else:
            parts[0] = tuple(sorted(set(parts[0]) | {numbers[-1] + 1}))
    return ("split", name, tuple((part, some_paper(maker, sheet, {**box, name: part}, deep - 1, wrong_in)) for part in parts))
