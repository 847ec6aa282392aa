"""The words of a desk: what a line asks for, and how answers are told."""

from whysheets.knotting import is_ring
from whysheets.words import is_name, is_number_word

# What stands behind the first word of a line: x a name, n a number, s a spot, * any number of words.
LINES = {
    "put": ("xn",), "range": ("xnn",), "drop": ("x",), "price": ("xn",), "undo": ("",), "redo": ("",),
    "where": ("",), "worth": ("s",), "text": ("x",), "reads": ("s",), "why": ("s",), "turn": ("s", "sn"),
    "ask": ("s",), "count": ("s",), "grip": ("sn*",),
}


def words_said(line):
    """The list of the first word of a line and what its other words tell; None for a line of no form."""
    words = line.split(" ")
    if words[0] not in LINES:
        return None
    for form in LINES[words[0]]:
        found = told_by(form, words[1:])
        if found is not None:
            return [words[0]] + found
    return None


def told_by(form, words):
    """The list of what words tell by a form; None if they have another one."""
    if form.endswith("*"):
        form = form[:-1] + "x" * (len(words) - len(form) + 1)
    if len(words) != len(form):
        return None
    found = [told_by_word(slot, words[k]) for k, slot in enumerate(form)]
    return None if None in found else found


def told_by_word(slot, word):
    """What a word tells in a slot; None if it cannot stand there."""
    if slot == "n":
        return int(word) if is_number_word(word) else None
    if is_name(word):
        return word
    if slot != "s" or not word.endswith("]"):
        return None
    name, sign, number = word[:-1].partition("[")
    return (name, int(number)) if sign == "[" and is_name(name) and is_number_word(number) else None


def list_said(things):
    """A list of what is told already."""
    return "(" + " ".join(things) + ")"


def worth_said(worth):
    """A worth."""
    return "open" if worth is None else str(worth)


def spot_said(spot):
    """A spot."""
    return spot[0] + "[" + str(spot[1]) + "]" if isinstance(spot, tuple) else spot


def knot_said(knot):
    """A knot."""
    return list_said(list(knot)) if is_ring(knot) else spot_said(knot)


def pairs_said(pairs):
    """A list of names with their numbers."""
    return list_said([name + " " + str(number) for name, number in pairs])
