"""Rules and their programs: what they are made of, and which objects are such."""

from heldwrites.errors import BadProgram, BadRule

# Where the parts of a rule stand in its tuple.
WIDTH = 0
LINES = 1
ROOM = 2
SENDS = 3
EAGER = 4
LOOK = 5
KINDS = 6
ACTING = 7

SENDS_WORDS = ("whole", "parts", "filled")
LOOK_WORDS = ("into", "past", "first")
PLACE_WORDS = ("write", "put", "read")
# The operations that give a stamp.
STAMPING_WORDS = ("write", "put")
MOST_ROWS = 8


def is_integer(thing):
    """Whether the object is an integer; a bool is none."""
    return isinstance(thing, int) and not isinstance(thing, bool)


def is_integer_within(thing, low, high):
    """Whether the object is an integer from low to high."""
    return is_integer(thing) and low <= thing <= high


def is_word_of(thing, words):
    """Whether the object is one of these strings."""
    return isinstance(thing, str) and thing in words


def are_numbers_below(thing, limit):
    """Whether the object is a tuple of integers from 0 to below limit, ascending, without duplicates."""
    if not isinstance(thing, tuple):
        return False
    least = 0
    for number in thing:
        if not is_integer_within(number, least, limit - 1):
            return False
        least = number + 1
    return True


def is_tuple_of(thing, fewest, most):
    """Whether the object is a tuple with as many parts as told."""
    return isinstance(thing, tuple) and fewest <= len(thing) <= most


def places_of(rule):
    """How many places the rule has."""
    return rule[WIDTH] * rule[LINES]


def line_of(rule, place):
    """The number of the line that has the place."""
    return place // rule[WIDTH]


def offset_of(rule, place):
    """The offset of the place in its line."""
    return place - rule[WIDTH] * line_of(rule, place)


def is_kind(thing, lines):
    """Whether the object is a kind of this many lines."""
    return is_tuple_of(thing, 1, lines) and are_numbers_below(thing, lines)


def is_rule(thing):
    """Whether the object is a rule."""
    if not is_tuple_of(thing, 8, 8):
        return False
    for part in (WIDTH, LINES, ROOM):
        if not is_integer_within(thing[part], 1, 3):
            return False
    if not is_word_of(thing[SENDS], SENDS_WORDS) or not is_word_of(thing[LOOK], LOOK_WORDS):
        return False
    if not isinstance(thing[EAGER], bool):
        return False
    if not is_tuple_of(thing[KINDS], 0, 3) or not is_tuple_of(thing[ACTING], 0, 2):
        return False
    kinds_fit = all([is_kind(kind, thing[LINES]) for kind in thing[KINDS]])
    return kinds_fit and are_numbers_below(thing[ACTING], places_of(thing))


def is_operation(rule, thing):
    """Whether the object is an operation of the rule, the first part of a row."""
    if not is_tuple_of(thing, 1, 2):
        return False
    if len(thing) == 1:
        return is_word_of(thing[0], ("pass",))
    return is_word_of(thing[0], PLACE_WORDS) and is_integer_within(thing[1], 0, places_of(rule) - 1)


def is_fenced_operation(rule, thing):
    """Whether the object is a tuple (op, fences), the first two parts of a row."""
    if not is_tuple_of(thing, 2, 2):
        return False
    op, fences = thing
    return is_operation(rule, op) and are_numbers_below(fences, len(rule[KINDS]))


def is_row(rule, thing, rows):
    """Whether the object is a row of a program of the rule with this many rows."""
    if not is_tuple_of(thing, 3, 3):
        return False
    op, fences, nexts = thing
    return is_fenced_operation(rule, (op, fences)) and are_numbers_below(nexts, rows)


def has_rows(rule, thing):
    """Whether the object is a program of the rule, which surely is a rule."""
    return is_tuple_of(thing, 1, MOST_ROWS) and all([is_row(rule, row, len(thing)) for row in thing])


def check_rule(rule):
    """Raise BadRule if the object is not a rule."""
    if not is_rule(rule):
        raise BadRule("this is not a rule")


def check_program(rule, program):
    """Raise BadRule or BadProgram if one of the two is not as it should be."""
    check_rule(rule)
    if not has_rows(rule, program):
        raise BadProgram("this is not a program of the rule")


def is_program(rule, thing):
    """Whether the object is a program of the rule; BadRule."""
    check_rule(rule)
    return has_rows(rule, thing)
