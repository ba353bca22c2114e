"""Spots and lots: which objects are such, and what a lot makes of a program."""

from heldwrites.errors import BadSpot
from heldwrites.rules import KINDS, is_integer_within


def is_spot(rule, program, thing):
    """Whether the object is a tuple of a row's number and a kind's number."""
    if not isinstance(thing, tuple) or len(thing) != 2:
        return False
    row, kind = thing
    return is_integer_within(row, 0, len(program) - 1) and is_integer_within(kind, 0, len(rule[KINDS]) - 1)


def check_spots(rule, program, spots):
    """Raise BadSpot if the object is not a list of spots without duplicates."""
    if not isinstance(spots, list) or not all([is_spot(rule, program, spot) for spot in spots]):
        raise BadSpot("this is not a list of spots")
    if len(set(spots)) < len(spots):
        raise BadSpot("a spot stands in the list twice")


def check_lot(rule, program, lot):
    """Raise BadSpot if the object is not a lot: a tuple of spots, ascending, without duplicates."""
    if not isinstance(lot, tuple) or not all([is_spot(rule, program, spot) for spot in lot]):
        raise BadSpot("this is not a tuple of spots")
    if lot != tuple(sorted(set(lot))):
        raise BadSpot("the spots are not ascending")


def program_with(program, lot):
    """The program in which each row has, besides its own fences, those of its spots."""
    rows = []
    for number, (op, fences, nexts) in enumerate(program):
        added = [kind for row, kind in lot if row == number]
        rows.append((op, tuple(sorted(set([*fences, *added]))), nexts))
    return tuple(rows)
