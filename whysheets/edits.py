"""Edits of sheets."""

from whysheets.editing import edit_back, has_edit_form, sheets_along
from whysheets.wanting import sound_frame


def is_edit(thing):
    """Whether any value is an edit, by its form."""
    return has_edit_form(thing)


def edited(sheet, edits):
    """The sheet to which edits lead, one behind the other."""
    sound_frame(sheet)
    return sheets_along(sheet, edits)[-1]


def inverse(sheet, edits):
    """The edits that lead back, the last one's first."""
    sound_frame(sheet)
    along = sheets_along(sheet, edits)
    return [edit_back(along[at], edit) for at, edit in enumerate(edits)][::-1]
