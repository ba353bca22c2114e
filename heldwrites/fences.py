"""Fences: lots of spots that keep a program from showing questions, and what it shows without."""

from heldwrites.answers import run_showing
from heldwrites.errors import BadQuestion, NotEnough, TooMany
from heldwrites.lots import check_lot, check_spots, program_with
from heldwrites.machine import rows_done
from heldwrites.moves import is_fenced, parts_of
from heldwrites.questions import has_question_form
from heldwrites.rules import KINDS, check_program, places_of

MOST_QUESTIONS = 3
MOST_SPOTS = 5


def with_fences(rule, program, lot):
    """The program with the fences of the lot put to its rows; BadRule, BadProgram, BadSpot."""
    check_program(rule, program)
    check_lot(rule, program, lot)
    return program_with(program, lot)


def check_questions(rule, program, questions):
    """Raise BadRule, BadProgram, or BadQuestion if the object is not a list of one to three questions."""
    check_program(rule, program)
    if not isinstance(questions, list) or not 1 <= len(questions) <= MOST_QUESTIONS:
        raise BadQuestion("this is not a list of one to three questions")
    if not all([has_question_form(rule, program, question) for question in questions]):
        raise BadQuestion("one of these is not a question of the program")


def first_shown(rule, program, questions):
    """The first of the questions that a run of the program shows, with such a run; None if there is none."""
    for question in questions:
        steps = run_showing(rule, program, question)
        if steps is not None:
            return (question, steps)
    return None


def is_part_of(lot, other):
    """Whether each spot of the lot is one of the other's."""
    return all([spot in other for spot in lot])


def least_lots(rule, program, questions, spots):
    """The least lots of the spots with which none can be shown; BadRule, BadProgram, BadQuestion, BadSpot, TooMany."""
    check_questions(rule, program, questions)
    check_spots(rule, program, spots)
    if len(spots) > MOST_SPOTS:
        raise TooMany("there are more than five spots")
    found = []
    # A lot that has a sufficient one in it is not least; more fences only take runs away.
    for lot in sorted([(), *parts_of(sorted(spots))], key=len):
        greater = any([is_part_of(least, lot) for least in found])
        if not greater and first_shown(rule, program_with(program, lot), questions) is None:
            found.append(lot)
    return sorted(found)


def runs_against(rule, program, questions, lot):
    """For each spot of the lot None, or a question with a run that shows it without the spot.

    BadRule, BadProgram, BadQuestion, BadSpot; NotEnough if some question can be shown with the lot.
    """
    check_questions(rule, program, questions)
    check_lot(rule, program, lot)
    if first_shown(rule, program_with(program, lot), questions) is not None:
        raise NotEnough("some question can be shown with this lot")
    others = [tuple([other for other in lot if other != spot]) for spot in lot]
    return [first_shown(rule, program_with(program, other), questions) for other in others]


def broken_spots(rule, program, run):
    """The spots whose row the run does while a line of their kind is open; BadRule, BadProgram, BadStep."""
    done = rows_done(rule, program, run)
    kinds = range(len(rule[KINDS]))
    return sorted({(row, kind) for row, _, state in done for kind in kinds if is_fenced(rule, (kind,), state[3])})


def questions_shown(rule, program, questions):
    """Those of the objects that are questions and that some run shows."""
    asked = [question for question in questions if has_question_form(rule, program, question)]
    return [question for question in asked if run_showing(rule, program, question) is not None]


def shown_pairs(rule, program):
    """The pairs (row, other) of which some run shows "ahead", ascending; BadRule, BadProgram."""
    check_program(rule, program)
    rows = range(len(program))
    shown = questions_shown(rule, program, [("ahead", row, other) for row in rows for other in rows])
    return [(row, other) for _, row, other in shown]


def shown_reads(rule, program):
    """The rows of reads of which some run shows "elder", ascending; BadRule, BadProgram."""
    check_program(rule, program)
    return [row for _, row in questions_shown(rule, program, [("elder", row) for row in range(len(program))])]


def shown_falls(rule, program):
    """The places of which some run shows "falls", ascending; BadRule, BadProgram."""
    check_program(rule, program)
    places = range(places_of(rule))
    return [place for _, place in questions_shown(rule, program, [("falls", place) for place in places])]
