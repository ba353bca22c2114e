"""Rules compared: which show the same questions of all programs, and what tells the others apart."""

from heldwrites.errors import UnlikeRules
from heldwrites.machine import rows_done
from heldwrites.questions import check_question
from heldwrites.rules import ACTING, EAGER, KINDS, LINES, LOOK, ROOM, SENDS, WIDTH, check_rule
from heldwrites.searches import Atlas, run_found
from heldwrites.watched import Watch

STRAIGHT = ("straight",)
# A look shows no more than those behind it.
LOOKS_IN_ORDER = ("first", "into", "past")


def check_comparable(rule, other):
    """Raise BadRule if one of the two is not a rule, UnlikeRules if they are not comparable."""
    check_rule(rule)
    check_rule(other)
    if any([rule[part] != other[part] for part in (WIDTH, LINES, KINDS, ACTING)]):
        raise UnlikeRules("the two rules are not comparable")


def form_of(rule):
    """The form of a rule."""
    if rule[WIDTH] == 1 and rule[EAGER]:
        return STRAIGHT
    sends = "whole" if rule[WIDTH] == 1 else rule[SENDS]
    eager = rule[EAGER] and rule[SENDS] != "parts"
    return (min(rule[ROOM], 2, rule[LINES]), sends, eager, rule[LOOK])


def rule_form(rule):
    """The form of the rule; comparable rules with equal forms are alike; BadRule."""
    check_rule(rule)
    return form_of(rule)


def chain_of(*ops):
    """The program that does the operations one after the other, without fences."""
    last = len(ops) - 1
    return tuple([(op, (), (row + 1,) if row < last else ()) for row, op in enumerate(ops)])


def parting_by_room(width):
    """A program and a question that need two open lines."""
    return (chain_of(("write", 0), ("write", width)), ("ahead", 0, 1))


def parting_by_sends(sends):
    """A program and a question that need these sends, "parts" or "filled", of a line with more than one place."""
    if sends == "parts":
        return (chain_of(("write", 0), ("write", 1)), ("ahead", 0, 1))
    return (chain_of(("write", 0), ("put", 1)), ("falls", 1))


def parting_by_waiting(width):
    """A program and a question that need a full line to stay open while the program goes on."""
    writes = [("write", place) for place in range(width)]
    return (chain_of(*writes, ("put", 1)), ("ahead", 0, width))


def parting_by_look(look):
    """A program and a question that need this look, "into" or "past", against those before it."""
    if look == "past":
        return (chain_of(("write", 0), ("read", 0)), ("elder", 1))
    return (chain_of(("write", 0), ("read", 0), ("put", 0)), ("falls", 0))


def parting_of(rule, other):
    """A program and a question that the first of two comparable rules shows alone; None if there is none."""
    form, wider = form_of(rule), form_of(other)
    if form == STRAIGHT:
        return None
    if wider == STRAIGHT:
        return (chain_of(("write", 0), ("put", 0)), ("falls", 0))
    room, sends, eager, look = form
    if room > wider[0]:
        return parting_by_room(rule[WIDTH])
    if sends not in ("whole", wider[1]):
        return parting_by_sends(sends)
    if wider[2] and not eager:
        return parting_by_waiting(rule[WIDTH])
    if LOOKS_IN_ORDER.index(look) > LOOKS_IN_ORDER.index(wider[3]):
        return parting_by_look(look)
    return None


def rule_within(rule, other):
    """Whether all that the first rule shows is shown by the second one; BadRule, UnlikeRules."""
    check_comparable(rule, other)
    return parting_of(rule, other) is None


def parting_program(rule, other):
    """A tuple (program, question) shown by the first rule alone, None if there is none; BadRule, UnlikeRules."""
    check_comparable(rule, other)
    return parting_of(rule, other)


def paths_along(done, steps):
    """The paths of a run alone: rows done and the "do" steps that did them; a position is the number of rows done."""
    return [(done[place][0], [(step, place + 1)]) for place, step in enumerate(steps)]


def carried_run(rule, other, program, question, run):
    """A run by the second rule that shows the question and does no other rows than the run, None if there is none.

    BadRule, UnlikeRules, BadProgram, BadQuestion, BadStep.
    """
    check_comparable(rule, other)
    check_question(rule, program, question)
    done = rows_done(rule, program, run)
    steps = [step for step in run if step[0] == "do"]
    return run_found(Atlas(Watch(other, program, question)), paths_along(done, steps))
