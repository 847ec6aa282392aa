"""Reading the words of a text by the rules, one by one.

What has been read is held as *entries* (tree, first, last, inner): the indexes of
its first and its last word, and the pairs of a path and an entry of what is in it.
"""

from whysheets.errors import BadText, NoFit
from whysheets.grammar import EMPTY, GROUPS, HELD, OTHERWISE, RULES, STARTS
from whysheets.shapes import GREATEST, LEAST
from whysheets.words import is_text, known_sort, split_words

# What is put together gets the reader, its word and the index of the first word
# of its rule; an expression that begins ahead of its rule's sign tells its own.


class Reader:
    """How far a text has been read: what is awaited, and what is held."""

    def __init__(self, piece):
        # What is awaited next stands last, each with the index of the word at which its rule began.
        self.awaited = [(piece, 0)]
        self.held = []
        self.taken = 0
        self.groups = 0
        # An expression that is read by itself may be a row's.
        self.in_row = piece == "E"
        self.misfit = None


def read_piece(text, piece):
    """A reader that has read all words of a text; BadText for the first one that cannot stand."""
    if not is_text(text):
        raise BadText(None, None, None)
    reader = Reader(piece)
    for word, line, column in split_words(text):
        sort = known_sort(word)
        wanted = wanted_by(reader)
        if sort not in wanted:
            raise BadText(line, column, wanted)
        take(reader, word, sort, (line, column))
    return reader


def read_whole(text, piece):
    """The entries of a text that is read to its end."""
    reader = read_piece(text, piece)
    wanted = wanted_by(reader)
    if "end" not in wanted:
        line, column = place_behind(text)
        raise BadText(line, column, wanted)
    check_fit(reader)
    finish(reader)
    return reader.held


def place_behind(text):
    """The line and the column right behind the last character."""
    return text.count("\n") + 1, len(text) - text.rfind("\n")


def check_fit(reader):
    """Raises NoFit for the first number that did not fit."""
    if reader.misfit is not None:
        line, column, low, high = reader.misfit
        raise NoFit(line, column, low, high)


def wanted_by(reader):
    """The ascending tuple of the sorts of words that can stand next."""
    found = {}
    for symbol, _ in reversed(reader.awaited):
        if symbol.startswith("!"):
            continue
        if symbol not in STARTS:
            found[HELD.get(symbol, symbol)] = True
            return tuple(sorted(found))
        for sort in STARTS[symbol]:
            if lets(reader, sort):
                found[sort] = True
        if symbol not in EMPTY:
            return tuple(sorted(found))
    found["end"] = True
    return tuple(sorted(found))


def lets(reader, sort):
    """Whether a piece may begin so at this place."""
    if sort == "place":
        return reader.in_row
    return sort != "(" or reader.groups < GROUPS


def take(reader, word, sort, place):
    """Reads a word that can stand next."""
    symbol, first = reader.awaited.pop()
    while symbol in STARTS or symbol.startswith("!"):
        if symbol in STARTS:
            expand(reader, symbol, sort)
        else:
            put_together(reader, symbol, first)
        symbol, first = reader.awaited.pop()
    hold(reader, symbol, word, place)
    reader.taken += 1
    # What was open or is finished behind this word must be known ahead of the next one.
    while reader.awaited and reader.awaited[-1][0].startswith("!"):
        symbol, first = reader.awaited.pop()
        put_together(reader, symbol, first)


def expand(reader, symbol, sort):
    """Awaits what a piece becomes before a word of this sort."""
    rule = RULES[(symbol, sort)] if (symbol, sort) in RULES else OTHERWISE[symbol]
    reader.awaited.extend([(one, reader.taken) for one in rule[::-1]])


def finish(reader):
    """Puts together what the end of the text finishes."""
    while reader.awaited:
        symbol, first = reader.awaited.pop()
        if symbol in STARTS:
            expand(reader, symbol, "end")
        else:
            put_together(reader, symbol, first)


def hold(reader, symbol, word, place):
    """Holds a name with the index of its word, or a number; notes the first one that does not fit."""
    if symbol == "NAME":
        reader.held.append((word, reader.taken))
    elif symbol in HELD:
        low, high = fitting(reader, symbol)
        if reader.misfit is None and not low <= int(word) <= high:
            reader.misfit = (place[0], place[1], low, high)
        reader.held.append(int(word))


def fitting(reader, symbol):
    """The least and the greatest number that fits at this place."""
    if symbol == "HIGH":
        return reader.held[-1], GREATEST
    if symbol == "COUNT":
        return 1, 9
    if symbol == "PAIR" and reader.held[-1]:
        return reader.held[-1][-1][0] + 1, GREATEST
    return LEAST, GREATEST


def put_together(reader, symbol, first):
    """Puts together what is held, by the symbol of what is finished."""
    word = symbol[1:]
    if word in OPENINGS:
        opening = OPENINGS[word]
        opening(reader)
    else:
        ending = ENDINGS[word]
        ending(reader, word, first)


def put(reader, tree, first, inner):
    """Holds an entry that ends with the last word that was read."""
    reader.held.append((tree, first, reader.taken - 1, inner))


def open_row(reader):
    """From here on place can stand."""
    reader.in_row = True


def open_group(reader):
    """From here on one more expression lies in parentheses."""
    reader.groups += 1


def open_pairs(reader):
    """Here the pairs of a cases begin."""
    reader.held.append([])


def end_number(reader, word, first):
    """A number alone."""
    put(reader, (word, reader.held.pop()), first, ())


def end_name(reader, word, first):
    """A name alone."""
    name, begin = reader.held.pop()
    put(reader, (word, name), begin, ())


def end_item(reader, word, first):
    """An item of a row."""
    number = reader.held.pop()
    name, begin = reader.held.pop()
    put(reader, (word, name, number), begin, ())


def end_at(reader, word, first):
    """An item some places away."""
    last = reader.held.pop()
    number = reader.held.pop()
    name, begin = reader.held.pop()
    put(reader, (word, name, number, last[0]), begin, (((3,), last),))


def end_place(reader, word, first):
    """The number of the item at work."""
    put(reader, (word,), first, ())


def end_row_word(reader, word, first):
    """A sum, a fewest or a most of a row."""
    put(reader, (word, reader.held.pop()[0]), first, ())


def end_chain(reader, word, first):
    """Two expressions with a sign or a word between them."""
    second = reader.held.pop()
    one = reader.held.pop()
    put(reader, (word, one[0], second[0]), one[1], (((1,), one), ((2,), second)))


def end_call(reader, word, first):
    """A least or a greatest, which begins with its word."""
    second = reader.held.pop()
    one = reader.held.pop()
    put(reader, (word, one[0], second[0]), first, (((1,), one), ((2,), second)))


def end_not(reader, word, first):
    """A not."""
    one = reader.held.pop()
    put(reader, (word, one[0]), first, (((1,), one),))


def end_choose(reader, word, first):
    """An if with both its parts."""
    third = reader.held.pop()
    second = reader.held.pop()
    one = reader.held.pop()
    put(reader, (word, one[0], second[0], third[0]), first, (((1,), one), ((2,), second), ((3,), third)))


def end_pair(reader, word, first):
    """A pair of a cases; it is held with those ahead of it."""
    entry = reader.held.pop()
    number = reader.held.pop()
    reader.held[-1].append((number, entry))


def end_cases(reader, word, first):
    """A cases with its pairs."""
    last = reader.held.pop()
    pairs = reader.held.pop()
    one = reader.held.pop()
    inner = [((1,), one)] + [((2, k, 1), pair[1]) for k, pair in enumerate(pairs)] + [((3,), last)]
    told = tuple([(number, entry[0]) for number, entry in pairs])
    put(reader, (word, one[0], told, last[0]), first, tuple(inner))


def end_group(reader, word, first):
    """An expression in parentheses, which belong to it."""
    reader.groups -= 1
    one = reader.held.pop()
    put(reader, one[0], first, one[3])


def end_range(reader, word, first):
    """The name and the range of an input."""
    high = reader.held.pop()
    low = reader.held.pop()
    put(reader, (word, reader.held.pop()[0], low, high), first, ())


def end_cell(reader, word, first):
    """A cell."""
    one = reader.held.pop()
    put(reader, (word, reader.held.pop()[0], one[0]), first, (((2,), one),))


def end_row(reader, word, first):
    """A row; behind it place cannot stand."""
    reader.in_row = False
    one = reader.held.pop()
    count = reader.held.pop()
    put(reader, (word, reader.held.pop()[0], count, one[0]), first, (((3,), one),))


def end_settle(reader, word, first):
    """A settling cell."""
    one = reader.held.pop()
    start = reader.held.pop()
    high = reader.held.pop()
    low = reader.held.pop()
    name = reader.held.pop()[0]
    put(reader, (word, name, low, high, start[0], one[0]), first, (((4,), start), ((5,), one)))


OPENINGS = {"open row": open_row, "open group": open_group, "open pairs": open_pairs}
ENDINGS = {
    "number": end_number, "name": end_name, "item": end_item, "at": end_at, "place": end_place,
    "sum": end_row_word, "fewest": end_row_word, "most": end_row_word,
    "plus": end_chain, "minus": end_chain, "times": end_chain,
    "less": end_chain, "atmost": end_chain, "same": end_chain, "and": end_chain, "or": end_chain,
    "least": end_call, "greatest": end_call, "not": end_not, "choose": end_choose,
    "pair": end_pair, "cases": end_cases, "group": end_group,
    "input": end_range, "cell": end_cell, "row": end_row, "settle": end_settle,
}
