"""Papers that show claims, and what breaks a claim."""

from whysheets.boxes import want_box
from whysheets.claiming import case_of, want_claim
from whysheets.errors import BadSplit
from whysheets.papering import DEEPEST, has_paper_form, is_right_split, part_boxes, want_paper
from whysheets.wanting import sound_frame, want_point


def breaks(sheet, point, claim):
    """Whether a point breaks a claim."""
    frame = sound_frame(sheet)
    want_point(frame, point)
    want_claim(frame, claim)
    return case_of(frame, claim).breaks_at(point)


def is_paper(sheet, thing):
    """Whether any value is a paper, by its form."""
    return has_paper_form(sound_frame(sheet), thing, DEEPEST)


def leaf_boxes(sheet, box, paper):
    """The list of the triples of the path, the box and the word of each leaf of a paper."""
    frame = sound_frame(sheet)
    want_box(frame, box)
    want_paper(frame, paper)
    found = []
    add_leaves({name: box[name] for name in sorted(box)}, paper, (), found)
    return found


def add_leaves(box, paper, path, found):
    """Adds the leaves of a paper at a path; BadSplit for the first split that is wrong."""
    if paper[0] != "split":
        found.append((path, dict(box), paper[0]))
        return
    _, name, parts = paper
    if not is_right_split(name, parts, box):
        raise BadSplit(path)
    for k, inner in enumerate(part_boxes(box, name, parts)):
        add_leaves(inner, parts[k][1], path + (k,), found)
