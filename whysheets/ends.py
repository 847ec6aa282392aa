"""The shortest ends that make a text whole."""

from whysheets.grammar import SHORTEST
from whysheets.reading import check_fit, read_piece


def shortest_end(text):
    """A shortest tuple of words with which a text is one of a sheet."""
    reader = read_piece(text, "SHEET")
    check_fit(reader)
    words = []
    low = None
    for symbol, _ in reversed(reader.awaited):
        if symbol == "NUMBER":
            low = 0
        if symbol == "HIGH":
            # The first number of the range itself always fits as the second one.
            words.append(str(reader.held[-1] if low is None else low))
        else:
            words.extend(shortest_of(symbol))
    return tuple(words)


def shortest_of(symbol):
    """The shortest words that what is awaited can become."""
    if symbol in SHORTEST:
        return SHORTEST[symbol]
    # All other pieces may be left out; small letters and signs are words themselves.
    if symbol.startswith("!") or symbol.isupper():
        return ()
    return (symbol,)
