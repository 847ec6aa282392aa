"""The judge of papers: it knows no search and no forks, only stretches and splits."""

from whysheets.boxes import is_box_of, want_box
from whysheets.claiming import case_of, want_claim
from whysheets.errors import BadBox, Wrong
from whysheets.papering import is_right_split, part_boxes, want_paper
from whysheets.papers import add_leaves
from whysheets.wanting import sound_frame


def judge(sheet, box, claim, paper):
    """The path and the word of the first paper that is wrong over a box; None if all are right."""
    frame = sound_frame(sheet)
    want_box(frame, box)
    want_claim(frame, claim)
    want_paper(frame, paper)
    return first_wrong(case_of(frame, claim), box, paper, ())


def first_wrong(case, box, paper, path):
    """The path and the word of the first wrong one of a paper at a path and the papers within it, or None."""
    if paper[0] != "split":
        return None if case.is_right_leaf(paper[0], box) else (path, paper[0])
    _, name, parts = paper
    if not is_right_split(name, parts, box):
        return path, "split"
    for k, inner in enumerate(part_boxes(box, name, parts)):
        found = first_wrong(case, inner, parts[k][1], path + (k,))
        if found is not None:
            return found
    return None


def pressed(sheet, box, claim, paper):
    """The right paper with leaves in the place of what bounds or distance alone show."""
    frame = sound_frame(sheet)
    want_box(frame, box)
    want_claim(frame, claim)
    want_paper(frame, paper)
    case = case_of(frame, claim)
    found = first_wrong(case, box, paper, ())
    if found is not None:
        raise Wrong(found[0], found[1])
    return pressed_in(case, box, paper)


def pressed_in(case, box, paper):
    """The pressed paper for a box."""
    for word in ("bounds", "far"):
        if case.is_right_leaf(word, box):
            return (word,)
    if paper[0] != "split":
        return paper
    _, name, parts = paper
    boxes = part_boxes(box, name, parts)
    return ("split", name, tuple([(numbers, pressed_in(case, boxes[k], inner))
                                  for k, (numbers, inner) in enumerate(parts)]))


def restricted(sheet, box, paper, smaller):
    """The paper for a box inside the box of a paper."""
    frame = sound_frame(sheet)
    want_box(frame, box)
    want_paper(frame, paper)
    if not is_box_of(frame.sheet[1], smaller) or not all([is_part_of(smaller[name], box[name]) for name in box]):
        raise BadBox("no box inside the box")
    # What splits wrongly is refused before anything of it is left out.
    add_leaves(box, paper, (), [])
    return restricted_to(smaller, paper)


def is_part_of(numbers, others):
    """Whether all of some numbers are among others."""
    return all([number in others for number in numbers])


def restricted_to(box, paper):
    """The paper for a box inside the one for which a paper splits rightly."""
    if paper[0] != "split":
        return paper
    _, name, parts = paper
    left = []
    for numbers, inner in parts:
        own = tuple([number for number in numbers if number in box[name]])
        if len(own) == len(box[name]):
            return restricted_to(box, inner)
        if own:
            left.append((own, inner))
    boxes = part_boxes(box, name, left)
    return ("split", name, tuple([(numbers, restricted_to(boxes[k], inner))
                                  for k, (numbers, inner) in enumerate(left)]))
