"""The desk: a rule and a program, told and asked about by rows of text."""

from heldwrites.answers import answer_to
from heldwrites.compared import STRAIGHT, rule_form
from heldwrites.errors import BadCommand, BadSpot, BadText, TooMany
from heldwrites.lots import is_spot, program_with
from heldwrites.rules import MOST_ROWS, is_program, is_row
from heldwrites.texts import digit_of, read_rule, row_of, show_eager, show_program

FIRST_RULE = (1, 1, 1, "whole", False, "into", (), ())
FIRST_ROWS = ((("pass",), (), ()),)
# The rows of text but for those with a text of their own: words, and None for a single digit.
FORMS = (
    ("ready",), ("form",), ("show",), ("fence", None, None),
    ("ask", "elder", None), ("ask", "falls", None), ("ask", "ahead", None, None), ("ask", "acts"),
)


def parts_of_row(row):
    """The words and numbers of a row of text; BadCommand."""
    texts = row.split(" ")
    numbers = [digit_of(text) for text in texts]
    form = tuple([text if number is None else None for text, number in zip(texts, numbers)])
    if form not in FORMS:
        raise BadCommand("this is not a row that the desk answers")
    return tuple([text if number is None else number for text, number in zip(texts, numbers)])


def answer_shown(answer):
    """The word of the answer, with the number of rows done, or of views."""
    word, told = answer
    if word == "run":
        told = [step for step in told if step[0] == "do"]
    return f"{word} {len(told)}"


def form_shown(form):
    """The parts of a rule's form, separated by blanks."""
    if form == STRAIGHT:
        return form[0]
    room, sends, eager, look = form
    return f"{room} {sends} {show_eager(eager)} {look}"


class Desk:
    """A rule and the rows of a program, which need not go on to rows that are there."""

    def __init__(self):
        self._rule = FIRST_RULE
        self._rows = FIRST_ROWS
        self._is_fresh = True

    def _change_rule(self, text):
        """Take another rule, with the first program again; BadText."""
        self._rule = read_rule(text)
        self._rows = FIRST_ROWS
        self._is_fresh = True
        return "ok"

    def _add_row(self, text):
        """Put a row behind the rows, in the place of the first one if they are fresh; BadText, TooMany."""
        row = row_of(text)
        if not is_row(self._rule, row, MOST_ROWS):
            raise BadText(0)
        rows = () if self._is_fresh else self._rows
        if len(rows) == MOST_ROWS:
            raise TooMany("the program has eight rows")
        self._rows = (*rows, row)
        self._is_fresh = False
        return "ok"

    def _put_fence(self, spot):
        """Put a fence to a row; BadSpot."""
        if not is_spot(self._rule, self._rows, spot):
            raise BadSpot("there is no such row, or no such kind")
        self._rows = program_with(self._rows, (spot,))
        return "ok"

    def say(self, row):
        """Answer the row; BadCommand, BadText, TooMany, BadProgram, BadSpot, BadQuestion."""
        if not isinstance(row, str):
            raise BadCommand("this is not a text")
        if row.startswith("rule "):
            return self._change_rule(row[len("rule "):])
        if row.startswith("row "):
            return self._add_row(row[len("row "):])
        parts = parts_of_row(row)
        if parts[0] == "fence":
            return self._put_fence(parts[1:])
        if parts[0] == "ask":
            return answer_shown(answer_to(self._rule, self._rows, parts[1:]))
        if parts[0] == "ready":
            return "yes" if is_program(self._rule, self._rows) else "no"
        if parts[0] == "form":
            return form_shown(rule_form(self._rule))
        return show_program(self._rule, self._rows).replace("\n", " / ")
