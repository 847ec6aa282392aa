"""Where in a text the things of its sheet stand."""

from whysheets.errors import BadPath, BadPlace
from whysheets.reading import read_whole
from whysheets.values import is_number
from whysheets.words import split_words


def reach_of(text, path):
    """The places of the first and the last character of what a path leads to."""
    entry = None
    inner = entries_of(text)
    # True would be equal to 1.
    if not isinstance(path, tuple) or not all([is_number(index) for index in path]):
        raise BadPath("no tuple of indexes")
    rest = path
    while rest:
        ahead = [pair for pair in inner if rest[:len(pair[0])] == pair[0]]
        if not ahead:
            raise BadPath("no path of the sheet")
        rest = rest[len(ahead[0][0]):]
        entry = ahead[0][1]
        inner = entry[3]
    if entry is None:
        raise BadPath("the sheet itself has no reach")
    return reach(split_words(text), entry)


def path_at(text, line, column):
    """The path of the innermost thing that reaches over a place."""
    inner = entries_of(text)
    if not is_number(line) or not is_number(column) or line < 1 or column < 1:
        raise BadPlace("no line and column from 1 on")
    words = split_words(text)
    path = ()
    while True:
        over = [pair for pair in inner if is_over(reach(words, pair[1]), (line, column))]
        if not over:
            return path
        # Of things that are not within one another only one reaches over a place.
        path = path + over[0][0]
        inner = over[0][1][3]


def entries_of(text):
    """The pairs of a path and an entry of all inputs and cells of a text."""
    found = []
    counts = {1: 0, 2: 0}
    for entry in read_whole(text, "SHEET"):
        group = 1 if entry[0][0] == "input" else 2
        found.append(((group, counts[group]), entry))
        counts[group] += 1
    return found


def reach(words, entry):
    """The places of the first character of the first word and of the last one of the last word."""
    _, line, column = words[entry[1]]
    word, end_line, end_column = words[entry[2]]
    return (line, column, end_line, end_column + len(word) - 1)


def is_over(places, place):
    """Whether a reach has a place in it."""
    return places[:2] <= place <= places[2:]
