"""Texts: rules, programs and runs written, and read back.

What is read is built first, with None for each part that is not of its form; then it is looked at as any object is.
"""

from heldwrites.errors import BadText
from heldwrites.moves import STOPPED, has_step_form
from heldwrites.rules import MOST_ROWS, are_numbers_below, check_program, check_rule, is_row, is_rule

DIGITS = "0123456789"
NOTHING = "-"
NO_ROW = "."
EAGER_WORDS = {"eager": True, "free": False}
MOST_STEPS = 1000


def show_digits(numbers):
    """The digits of the numbers, without anything between."""
    return "".join([str(number) for number in numbers])


def show_numbers(numbers):
    """The numbers separated by commas, a hyphen if there are none."""
    return ",".join([str(number) for number in numbers]) or NOTHING


def show_eager(eager):
    """The word for a rule that is eager, or is not."""
    return "eager" if eager else "free"


def show_rule(rule):
    """The rule as one line; BadRule."""
    check_rule(rule)
    width, lines, room, sends, eager, look, kinds, acting = rule
    told = ",".join([show_digits(kind) for kind in kinds]) or NOTHING
    return f"{width} {lines} {room} {sends} {show_eager(eager)} {look} {told} {show_numbers(acting)}"


def show_row(row):
    """The row as one line."""
    op, fences, nexts = row
    done = " ".join([str(part) for part in op])
    return f"{done} {show_numbers(fences)} > {show_numbers(nexts)}"


def show_program(rule, program):
    """The program in lines, one for each row; BadRule, BadProgram."""
    check_program(rule, program)
    return "\n".join([show_row(row) for row in program])


def show_step(step):
    """The step as a part of a run's text."""
    if step[0] == "send":
        return f"send {step[1]} {show_digits(step[2])}"
    return f"do {NO_ROW}" if step[1] == STOPPED else f"do {step[1]}"


def show_run(run):
    """The run as one line."""
    return "; ".join([show_step(step) for step in run])


def digit_of(text):
    """The number that a single digit writes, None for any other text."""
    return int(text) if len(text) == 1 and text in DIGITS else None


def digits_of(texts):
    """The numbers that the texts write, with None for what is no single digit."""
    return tuple([digit_of(text) for text in texts])


def numbers_of(text):
    """The numbers that a text with commas between them writes, with None for what is no single digit."""
    return () if text == NOTHING else digits_of(text.split(","))


def kinds_of(text):
    """The kinds that the text writes, with None for what is no single digit."""
    return () if text == NOTHING else tuple([digits_of(kind) for kind in text.split(",")])


def rule_of(text):
    """What the text writes as a rule, None if it has another number of parts."""
    parts = text.split(" ")
    if len(parts) != 8:
        return None
    sizes = digits_of(parts[:3])
    return (*sizes, parts[3], EAGER_WORDS.get(parts[4]), parts[5], kinds_of(parts[6]), numbers_of(parts[7]))


def row_of(line):
    """What the line writes as a row of a program, None if it has other parts."""
    parts = line.split(" ")
    if len(parts) not in (4, 5) or parts[-2] != ">":
        return None
    op = (parts[0],) if len(parts) == 4 else (parts[0], digit_of(parts[1]))
    return (op, numbers_of(parts[-3]), numbers_of(parts[-1]))


def step_of(text):
    """What the text writes as a step, None if it has other parts."""
    parts = text.split(" ")
    if len(parts) == 2:
        return (parts[0], STOPPED if parts[1] == NO_ROW else digit_of(parts[1]))
    if len(parts) == 3:
        return (parts[0], digit_of(parts[1]), digits_of(parts[2]))
    return None


def can_be_written(step):
    """Whether what a text writes as a step has the form of one: offsets are one or more, ascending."""
    if not has_step_form(step):
        return False
    return step[0] == "do" or (len(step[2]) > 0 and are_numbers_below(step[2], len(DIGITS)))


def check_text(text):
    """Raise BadText with line 0 if the object is not a text."""
    if not isinstance(text, str):
        raise BadText(0)


def read_rule(text):
    """The rule that the text writes; BadText."""
    check_text(text)
    rule = rule_of(text)
    if not is_rule(rule):
        raise BadText(0)
    return rule


def read_program(rule, text):
    """The program of the rule that the text writes; BadRule, BadText with the line at fault."""
    check_rule(rule)
    check_text(text)
    rows = [row_of(line) for line in text.split("\n")]
    for number, row in enumerate(rows):
        if number == MOST_ROWS or not is_row(rule, row, len(DIGITS)):
            raise BadText(number)
    # Only behind all faults of form: a next may name a row that comes later.
    for number, row in enumerate(rows):
        if not is_row(rule, row, len(rows)):
            raise BadText(number)
    return tuple(rows)


def read_run(text):
    """The steps that the text writes, whether they can be taken or not; BadText."""
    check_text(text)
    steps = [step_of(part) for part in text.split("; ")] if text else []
    if len(steps) > MOST_STEPS or not all([can_be_written(step) for step in steps]):
        raise BadText(0)
    return steps
