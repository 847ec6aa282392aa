"""The form of papers, and their splits over boxes."""

from whysheets.boxes import with_number
from whysheets.errors import BadPaper
from whysheets.frames import word_of
from whysheets.values import is_number, is_rising, is_tuple_of

LEAVES = ("bounds", "far", "point")
DEEPEST = 60
MOST_NUMBERS = 9


def has_paper_form(frame, thing, deepest):
    """Whether any value is a paper with at most so many splits one within the other."""
    if not isinstance(thing, tuple) or not thing or not isinstance(thing[0], str):
        return False
    if thing[0] != "split":
        return len(thing) == 1 and thing[0] in LEAVES
    if len(thing) != 3 or deepest == 0 or not isinstance(thing[1], str) or word_of(frame, thing[1]) != "input":
        return False
    parts = thing[2]
    if not isinstance(parts, tuple) or len(parts) < 2 or not all([is_tuple_of(part, 2) for part in parts]):
        return False
    if not all([are_part_numbers(part[0]) for part in parts]):
        return False
    return all([has_paper_form(frame, part[1], deepest - 1) for part in parts])


def are_part_numbers(thing):
    """Whether any value is an ascending tuple of 1 to 9 numbers."""
    if not isinstance(thing, tuple) or not 1 <= len(thing) <= MOST_NUMBERS:
        return False
    return all([is_number(number) for number in thing]) and is_rising(thing)


def want_paper(frame, paper):
    """Raises BadPaper for what is no paper."""
    if not has_paper_form(frame, paper, DEEPEST):
        raise BadPaper("no paper")


def is_right_split(name, parts, box):
    """Whether parts split a box by an input."""
    own = box[name]
    for numbers, _ in parts:
        if not all([number in own for number in numbers]) or len(numbers) == len(own):
            return False
    return all([any([number in part[0] for part in parts]) for number in own])


def part_boxes(box, name, parts):
    """The list of the boxes of the parts of a split."""
    return [with_number(box, name, numbers) for numbers, _ in parts]
