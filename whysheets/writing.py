"""Writing expressions and cells as words, with the fewest parentheses."""

# How much an expression asks for by itself: one may stand without parentheses
# where no more than its own level is asked for.
LEVELS = {
    "choose": 0, "or": 1, "and": 2, "not": 3, "less": 4, "atmost": 4, "same": 4,
    "plus": 5, "minus": 5, "times": 6,
}
ALONE = 7
# Of each sign: how it is written, and the levels that are asked for ahead of it and behind it.
CHAINS = {
    "or": ("or", 1, 2), "and": ("and", 2, 3),
    "less": ("<", 5, 5), "atmost": ("<=", 5, 5), "same": ("==", 5, 5),
    "plus": ("+", 5, 6), "minus": ("-", 5, 6), "times": ("*", 6, 7),
}
OPENING = ("(", "[", "{")
CLOSE = (")", "]", "}", ",", ":")
CALLED = ("least", "greatest")


def text_of(words):
    """The words as one text, with the blanks that belong between them."""
    pieces = []
    for k, word in enumerate(words):
        if k > 0 and is_parted(words[k - 1], word):
            pieces.append(" ")
        pieces.append(word)
    return "".join(pieces)


def is_parted(ahead, word):
    """Whether a blank stands between two words."""
    if ahead in OPENING or word in CLOSE or word == "[":
        return False
    return word != "(" or ahead not in CALLED


def cell_words(cell):
    """The words of an input or a cell."""
    word = cell[0]
    if word == "cell":
        return ["cell", cell[1], "="] + expression_words(cell[2], 0)
    if word == "row":
        return ["row", cell[1], "of", str(cell[2]), "="] + expression_words(cell[3], 0)
    ranged = [word, cell[1], "from", str(cell[2]), "to", str(cell[3])]
    if word == "input":
        return ranged
    return ranged + ["start"] + expression_words(cell[4], 0) + ["="] + expression_words(cell[5], 0)


def expression_words(expression, asked):
    """The words of an expression, in parentheses where more is asked for than its level."""
    words = bare_words(expression)
    if LEVELS.get(expression[0], ALONE) < asked:
        return ["("] + words + [")"]
    return words


def bare_words(expression):
    """The words of an expression without parentheses around it."""
    word = expression[0]
    if word in CHAINS:
        sign, ahead, behind = CHAINS[word]
        return expression_words(expression[1], ahead) + [sign] + expression_words(expression[2], behind)
    if word in CALLED:
        first = [word, "("] + expression_words(expression[1], 0)
        return first + [","] + expression_words(expression[2], 0) + [")"]
    if word == "not":
        return ["not"] + expression_words(expression[1], 3)
    if word == "choose":
        first = ["if"] + expression_words(expression[1], 0) + ["then"] + expression_words(expression[2], 0)
        return first + ["else"] + expression_words(expression[3], 0)
    if word == "cases":
        return cases_words(expression)
    return short_words(expression)


def cases_words(expression):
    """The words of a cases."""
    words = ["cases"] + expression_words(expression[1], 0) + ["{"]
    for number, part in expression[2]:
        words = words + [str(number), ":"] + expression_words(part, 0) + [","]
    return words + ["else", ":"] + expression_words(expression[3], 0) + ["}"]


def short_words(expression):
    """The words of a number, of names, items and places, and of what is told of rows."""
    word = expression[0]
    if word == "number":
        return [str(expression[1])]
    if word == "name":
        return [expression[1]]
    if word == "item":
        return [expression[1], "[", str(expression[2]), "]"]
    if word == "at":
        first = [expression[1], "[", "place", str(expression[2]), "else"]
        return first + expression_words(expression[3], 0) + ["]"]
    return list(expression)
