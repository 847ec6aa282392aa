"""What schemes are, and papers for what a spot's worth is known to be."""

from whysheets.claiming import Case
from whysheets.errors import BadScheme
from whysheets.judge import first_wrong
from whysheets.papering import DEEPEST, has_paper_form
from whysheets.questioning import answers_of, box_behind, is_question
from whysheets.searching import paper_over
from whysheets.tables import SpanTable, Table
from whysheets.values import is_tuple_of, is_worth


class Known:
    """Judges and finds papers for the worth of a spot."""

    def __init__(self, frame, spot):
        self.frame = frame
        self.spot = spot
        self.table = Table(frame, (spot,))
        self.spans = SpanTable(frame, (spot,))

    def case_with(self, worth):
        """The case of the claim that the spot has no other worth."""
        return Case((((self.spot, (worth,), False),), None), self.table, self.spans)

    def is_shown(self, box, worth, thing):
        """Whether any value is a right paper for the spot's worth over a box."""
        if not has_paper_form(self.frame, thing, DEEPEST):
            return False
        return first_wrong(self.case_with(worth), box, thing, ()) is None

    def paper_for(self, box, worth):
        """A right paper for the worth that the spot has all over a box."""
        return paper_over(self.case_with(worth), box)


def is_scheme_over(known, box, lets_atmost, thing):
    """Whether any value is a scheme over a box; atmost is let or not."""
    if not is_tuple_of(thing, 3) or not isinstance(thing[0], str):
        return False
    if thing[0] == "known":
        return is_worth(thing[1]) and known.is_shown(box, thing[1], thing[2])
    if thing[0] != "ask" or not is_question(box, lets_atmost, thing[1]):
        return False
    answers = answers_of(box, thing[1])
    if not is_tuple_of(thing[2], len(answers)):
        return False
    for k, answer in enumerate(answers):
        if not is_scheme_over(known, box_behind(box, thing[1], answer), lets_atmost, thing[2][k]):
            return False
    return True


def want_scheme(known, box, lets_atmost, scheme):
    """Raises BadScheme for what is no scheme over a box."""
    if not is_scheme_over(known, box, lets_atmost, scheme):
        raise BadScheme("no scheme")
