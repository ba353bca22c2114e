"""Questions: which objects are such, what places they are about, and which runs show them."""

from heldwrites.errors import BadQuestion
from heldwrites.machine import given_along, rows_along, states_along
from heldwrites.moves import operation_at, stamp_read
from heldwrites.rules import ACTING, STAMPING_WORDS, check_program, is_integer_within, places_of


def is_row_with(program, thing, words):
    """Whether the object is the number of a row whose operation has one of these words."""
    return is_integer_within(thing, 0, len(program) - 1) and operation_at(program, thing)[0] in words


def is_pair(program, row, other):
    """Whether the objects are the numbers of two rows that give stamps, at unlike places."""
    if not is_row_with(program, row, STAMPING_WORDS) or not is_row_with(program, other, STAMPING_WORDS):
        return False
    return operation_at(program, row)[1] != operation_at(program, other)[1]


def has_question_form(rule, program, thing):
    """Whether the object is a question of the program, which surely is a program of the rule."""
    if not isinstance(thing, tuple) or not thing or not isinstance(thing[0], str):
        return False
    word = thing[0]
    if len(thing) == 1:
        return word == "acts"
    if len(thing) == 3:
        return word == "ahead" and is_pair(program, thing[1], thing[2])
    if len(thing) != 2:
        return False
    if word == "elder":
        return is_row_with(program, thing[1], ("read",))
    return word == "falls" and is_integer_within(thing[1], 0, places_of(rule) - 1)


def is_question(rule, program, thing):
    """Whether the object is a question of the program; BadRule, BadProgram."""
    check_program(rule, program)
    return has_question_form(rule, program, thing)


def check_question(rule, program, question):
    """Raise BadRule, BadProgram or BadQuestion if one of the three is not as it should be."""
    if not is_question(rule, program, question):
        raise BadQuestion("this is not a question of the program")


def places_asked(rule, program, question):
    """The places that the question tracks: for "ahead" that of row, then that of other."""
    word = question[0]
    if word == "acts":
        return rule[ACTING]
    if word == "falls":
        return (question[1],)
    return tuple([operation_at(program, row)[1] for row in question[1:]])


def shows_elder(rule, row, done):
    """Whether the row tells a stamp less than the last one of its place; done is what rows_along tells."""
    last = {}
    for current, op, state in done:
        if current == row and stamp_read(rule, state, op[1]) < last.get(op[1], 0):
            return True
        if op[0] in STAMPING_WORDS:
            last[op[1]] = state[1] + 1
    return False


def shows_falls(place, states):
    """Whether a step leaves a lesser stamp at the place than it found there."""
    stamps = [state[2][place] for state in states]
    return any([after < before for before, after in zip(stamps, stamps[1:])])


def stamps_before(row, other, given):
    """For each stamp that other gave, the last one that row gave before it, 0 if there is none."""
    last = 0
    before = {}
    for stamp, (giver, _) in enumerate(given, start=1):
        if giver == row:
            last = stamp
        if giver == other:
            before[stamp] = last
    return before


def shows_ahead(places, before, states):
    """Whether memory has at the second place a stamp of before, and at the first one less than is told for it."""
    first, second = places
    return any([state[2][first] < before.get(state[2][second], 0) for state in states])


def shows_acts(rule, given, acts):
    """Whether the acts are not a beginning of all stamps given to acting places, in order."""
    # Acts only grow: if those of the last state are such a beginning, all before them were.
    stamps = tuple([stamp for stamp, (_, place) in enumerate(given, start=1) if place in rule[ACTING]])
    return acts != stamps[:len(acts)]


def shows_along(rule, program, question, states, run, acts):
    """Whether the run shows the question; states are those along it, acts those of the last one.

    What the states themselves tell of acts is not looked at.
    """
    word = question[0]
    if word == "elder":
        return shows_elder(rule, question[1], rows_along(program, states, run))
    if word == "falls":
        return shows_falls(question[1], states)
    given = given_along(program, states, run)
    if word == "acts":
        return shows_acts(rule, given, acts)
    before = stamps_before(question[1], question[2], given)
    return shows_ahead(places_asked(rule, program, question), before, states)


def run_shows(rule, program, question, run):
    """Whether the run shows the question; BadRule, BadProgram, BadQuestion, BadStep."""
    check_question(rule, program, question)
    states = states_along(rule, program, run)
    return shows_along(rule, program, question, states, run, states[-1][4])
