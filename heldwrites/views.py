"""Views: what they tell of watched states, and which objects have the form of one."""

from heldwrites.moves import cells_of
from heldwrites.rules import ROOM, SENDS, WIDTH, is_integer, is_integer_within, line_of, offset_of, places_of
from heldwrites.watched import LOST

EMPTY = -1


def code_of(cell):
    """The code of a cell of a watched state."""
    if cell is None:
        return EMPTY
    recent, marked = cell
    return 2 + recent if marked else recent


def cell_of(code):
    """The cell of a watched state that has the code."""
    if code == EMPTY:
        return None
    return (code & 1, code >= 2)


def codes_of(cells):
    """The codes of a line's cells, () if the line is not open."""
    if cells is None:
        return ()
    return tuple([code_of(cell) for cell in cells])


def view_of(watch, state):
    """The view of a watched state."""
    row, stage, memory, held, order = state
    lines = tuple([codes_of(cells_of(held, line)) for line in watch.lines])
    told = ()
    if watch.word in ("elder", "ahead"):
        told = tuple([memory[place] for place in watch.places])
    return (row, stage, lines, told, order)


def watched_with(watch, view):
    """The watched state that has the view."""
    row, stage, lines, told, order = view
    memory = [0] * places_of(watch.quiet_rule)
    if watch.word == "falls":
        memory[watch.places[0]] = 1
    for place, recent in zip(watch.places, told):
        memory[place] = recent
    held = [(line, tuple([cell_of(code) for code in codes])) for line, codes in zip(watch.lines, lines) if codes]
    return (row, stage, tuple(memory), tuple(held), order)


def code_at(watch, lines, place):
    """The code of a tracked place, EMPTY if its line is not open."""
    for line, codes in zip(watch.lines, lines):
        if line == line_of(watch.quiet_rule, place) and codes:
            return codes[offset_of(watch.quiet_rule, place)]
    return EMPTY


def is_recent_at(watch, lines, place):
    """Whether the code of a tracked place tells a recent stamp."""
    return code_at(watch, lines, place) in (1, 3)


def is_code(watch, place, thing):
    """Whether the object is a code of the place's cell in an open line."""
    if not is_integer_within(thing, EMPTY, 3):
        return False
    if thing in (1, 3) and (watch.word == "acts" or place not in watch.places):
        return False
    if watch.quiet_rule[SENDS] == "filled":
        return thing != EMPTY
    return thing not in (0, 1)


def are_codes(watch, line, thing):
    """Whether the object is () or the codes of the open line."""
    if not isinstance(thing, tuple):
        return False
    if not thing:
        return True
    width = watch.quiet_rule[WIDTH]
    if len(thing) != width:
        return False
    fit = all([is_code(watch, line * width + offset, code) for offset, code in enumerate(thing)])
    return fit and max(thing) >= 2


def are_lines(watch, thing):
    """Whether the object tells the tracked lines, no more of them open than there is room for."""
    if not isinstance(thing, tuple) or len(thing) != len(watch.lines):
        return False
    if not all([are_codes(watch, line, codes) for line, codes in zip(watch.lines, thing)]):
        return False
    return len([codes for codes in thing if codes]) <= watch.quiet_rule[ROOM]


def is_memory(watch, thing):
    """Whether the object tells what memory has at the tracked places."""
    entries = len(watch.places) if watch.word in ("elder", "ahead") else 0
    if not isinstance(thing, tuple) or len(thing) != entries:
        return False
    return all([is_integer_within(entry, 0, 1) for entry in thing])


def is_order(watch, lines, thing):
    """Whether the object tells an order of the stamps that these lines hold and that are still to act."""
    if not isinstance(thing, tuple) or not all([is_integer(entry) for entry in thing]):
        return False
    if watch.word != "acts":
        return not thing
    waiting = [place for place in watch.places if code_at(watch, lines, place) >= 2]
    if thing and thing[-1] == LOST:
        told = thing[:-1]
        return len(set(told)) == len(told) and all([place in waiting for place in told])
    return sorted(thing) == waiting


def is_chosen(watch, stage, lines, memory):
    """Whether no more is recent than the stage lets be, and the question is not shown."""
    if watch.word != "ahead":
        return stage == 0
    recent = [is_recent_at(watch, lines, place) or told == 1 for place, told in zip(watch.places, memory)]
    if stage == 2:
        return memory != (0, 1)
    return not any(recent[stage:])


def is_view(watch, thing):
    """Whether the object has the form of a view for the question."""
    if not isinstance(thing, tuple) or len(thing) != 5:
        return False
    row, stage, lines, memory, order = thing
    if not is_integer_within(row, -1, len(watch.rows) - 1) or not is_integer_within(stage, 0, 2):
        return False
    if not are_lines(watch, lines) or not is_memory(watch, memory):
        return False
    return is_order(watch, lines, order) and is_chosen(watch, stage, lines, memory)
