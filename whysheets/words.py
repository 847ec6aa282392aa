"""Names, kept words and the words of a text."""

from whysheets.errors import BadWord

KEPT = (
    "and", "cases", "cell", "else", "fewest", "fork", "from", "greatest", "if", "input", "leaf", "least",
    "most", "not", "of", "or", "place", "row", "settle", "start", "sum", "then", "to",
)
# These two are kept for forks; no text has them.
UNWRITTEN = ("fork", "leaf")
SIGNS = ("(", ")", "[", "]", "{", "}", ",", ":", "=", "+", "-", "*", "<", "<=", "==")
PAIRED = ("<=", "==")


def is_name(thing):
    """Whether any value is a name."""
    if not isinstance(thing, str) or not 1 <= len(thing) <= 8:
        return False
    return thing not in KEPT and all([is_small(sign) for sign in thing])


def sort_of(word):
    """The sort of a word: name, figures, strange, or the word itself."""
    if not is_text(word):
        raise BadWord("no text")
    found = split_words(word)
    if len(found) != 1 or found[0][0] != word:
        raise BadWord("not one word and nothing else")
    return known_sort(word)


def known_sort(word):
    """The sort of what is known to be one word."""
    if word in SIGNS or (word in KEPT and word not in UNWRITTEN):
        return word
    if is_name(word):
        return "name"
    return "figures" if is_number_word(word) else "strange"


def is_number_word(word):
    """Whether a word writes a number in the one way in which it can be written."""
    figures = word[1:] if word.startswith("-") else word
    if not 1 <= len(figures) <= 3 or not all([is_figure(sign) for sign in figures]):
        return False
    return word == "0" or figures[0] != "0"


def is_text(thing):
    """Whether any value is a text."""
    return isinstance(thing, str) and all([sign == "\n" or " " <= sign <= "~" for sign in thing])


def split_words(text):
    """The triples of each word of a text, its line and its column."""
    found = []
    line = 1
    begin = 0
    at = 0
    while at < len(text):
        if text[at] == "\n":
            line += 1
            begin = at + 1
        if text[at] in (" ", "\n"):
            at += 1
        else:
            end = word_end(text, at)
            found.append((text[at:end], line, at - begin + 1))
            at = end
    return found


def word_end(text, at):
    """The index behind the word that begins at an index."""
    if is_inner(text[at]):
        return inner_end(text, at)
    if text[at] == "-" and is_figure(text[at + 1:at + 2]):
        return inner_end(text, at + 1)
    return at + 2 if text[at:at + 2] in PAIRED else at + 1


def inner_end(text, at):
    """The index behind the letters, figures and low lines from an index on."""
    while at < len(text) and is_inner(text[at]):
        at += 1
    return at


def is_inner(sign):
    """Whether a character of a text is a letter, a figure or a low line."""
    return is_small(sign) or "A" <= sign <= "Z" or is_figure(sign) or sign == "_"


def is_small(sign):
    """Whether a character is one of the letters a to z."""
    return "a" <= sign <= "z"


def is_figure(sign):
    """Whether a character, or the empty string, is a figure."""
    return "0" <= sign <= "9"
