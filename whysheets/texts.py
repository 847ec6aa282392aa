"""Sheets, cells and expressions as texts."""

from whysheets.errors import BadCell, BadExpression, BadSheet, BadText
from whysheets.reading import read_piece, read_whole, wanted_by
from whysheets.trees import is_cell, is_expression, is_sheet
from whysheets.words import is_text, split_words
from whysheets.writing import cell_words, expression_words, text_of


def words_of(text):
    """The list of the triples of each word of a text, its line and its column."""
    if not is_text(text):
        raise BadText(None, None, None)
    return split_words(text)


def read_sheet(text):
    """The sheet that a text tells."""
    things = [entry[0] for entry in read_whole(text, "SHEET")]
    inputs = tuple([thing for thing in things if thing[0] == "input"])
    return ("sheet", inputs, tuple(things[len(inputs):]))


def read_cell(text):
    """The cell that a text tells."""
    return read_whole(text, "CELL")[0][0]


def read_expression(text):
    """The expression that a text tells."""
    return read_whole(text, "E")[0][0]


def can_follow(text):
    """The sorts of words that can stand behind a text."""
    return wanted_by(read_piece(text, "SHEET"))


def sheet_text(sheet):
    """The text of a sheet, a line for each input and each cell."""
    if not is_sheet(sheet):
        raise BadSheet("no sheet")
    lines = [text_of(cell_words(thing)) + "\n" for thing in sheet[1] + sheet[2]]
    return "".join(lines)


def cell_text(cell):
    """The text of a cell."""
    if not is_cell(cell):
        raise BadCell("no cell")
    return text_of(cell_words(cell))


def expression_text(expression):
    """The text of an expression."""
    if not is_expression(expression):
        raise BadExpression("no expression")
    return text_of(expression_words(expression, 0))
