"""Watched states: what a question needs to know of a state, and what steps do to it.

A watched state is a tuple (row, stage, memory, held, order). It is built as a state is, so that the same single steps
lead on from it: in the place of each stamp stands 1 if it is recent and 0 if not, and only lines that the question
tracks are open, for all others are sent at once. stage and order are those of a view. Where a step shows the question,
None stands in the place of the watched state that it would lead to.
"""

from heldwrites.moves import after_send, can_do, cells_of, held_after_write, held_with
from heldwrites.moves import operation_at, sends_of, stamp_read
from heldwrites.questions import places_asked
from heldwrites.rules import ACTING, WIDTH, line_of, offset_of, places_of

LOST = -1
# What memory tells of the tracked places when it shows the question: at stages before the last one nothing is recent
# at the place of other.
SHOWING = {"falls": (0,), "ahead": (0, 1)}


class Watch:
    """A question of a program under a rule, with the places and the lines that it tracks."""

    def __init__(self, rule, program, question):
        self.places = places_asked(rule, program, question)
        self.lines = tuple(sorted(set([line_of(rule, place) for place in self.places])))
        # No place acts here: what acted is told by the order alone.
        self.quiet_rule = (*rule[:ACTING], ())
        self.rows = program
        self.question = question
        self.word = question[0]


def first_watched(watch):
    """The watched state at the beginning: the stamp 0 of memory is the last one, and no less than itself."""
    first = 1 if watch.word in ("elder", "falls") else 0
    memory = [first if place in watch.places else 0 for place in range(places_of(watch.quiet_rule))]
    return (0, 0, tuple(memory), (), ())


def with_entry(entries, index, entry):
    """The tuple with another entry at the index."""
    return (*entries[:index], entry, *entries[index + 1:])


def stages_behind(watch, row, stage):
    """The stages that doing the row can lead to: the stamp may be left, or be chosen if it is the one to come."""
    if watch.word == "ahead" and stage < 2 and row == watch.question[stage + 1]:
        return (stage, stage + 1)
    return (stage,)


def recent_when_given(watch, place, before, stage):
    """1 if a stamp that is given to the place by a step from stage before to this stage is recent, else 0."""
    if place not in watch.places or watch.word == "acts":
        return 0
    if watch.word != "ahead":
        return 1
    if place == watch.places[0]:
        return min(stage, 1)
    return stage - before


def order_with(order, place):
    """The order of the stamps still to act, behind a write to the acting place."""
    if place in order:
        return (*order[:order.index(place)], LOST)
    if LOST in order:
        return order
    return (*order, place)


def held_with_old_cell(rule, held, place):
    """The open lines, what the cell of the place holds being no longer recent."""
    line, offset = line_of(rule, place), offset_of(rule, place)
    cells = cells_of(held, line)
    if cells is None or cells[offset] is None:
        return held
    return held_with(held, line, with_entry(cells, offset, (0, cells[offset][1])))


def after_write(watch, state, place, recent):
    """The watched state after a write has given the place a stamp, recent or not."""
    row, stage, memory, held, order = state
    if line_of(watch.quiet_rule, place) in watch.lines:
        held = held_after_write(watch.quiet_rule, memory, held, place, recent)
    if place in watch.places and watch.word == "elder":
        memory = with_entry(memory, place, 0)
    if place in watch.places and watch.word == "acts":
        order = order_with(order, place)
    return (row, stage, memory, held, order)


def after_put(watch, state, place, recent):
    """The watched state after a put has given the place a stamp, recent or not."""
    row, stage, memory, held, order = state
    if place not in watch.places:
        return state
    # A put acts at once, ahead of the stamps that still wait.
    if order:
        return None
    if watch.word in ("elder", "falls"):
        held = held_with_old_cell(watch.quiet_rule, held, place)
    return (row, stage, with_entry(memory, place, recent), held, order)


def after_read(watch, state, place):
    """The watched state after a read of the place by its row."""
    if watch.word == "elder" and watch.question[1] == state[0] and not stamp_read(watch.quiet_rule, state, place):
        return None
    return state


def unless_shown(watch, state):
    """The watched state, None if its memory shows the question."""
    if state is None:
        return None
    told = tuple([state[2][place] for place in watch.places])
    return None if told == SHOWING.get(watch.word) else state


def after_row(watch, state, stage):
    """The watched state after its row was done and led to the stage; the row stays, going on is left to others."""
    row, before, memory, held, order = state
    op = operation_at(watch.rows, row)
    if op[0] == "pass":
        return state
    place = op[1]
    if op[0] == "read":
        return after_read(watch, state, place)
    chosen = (row, stage, memory, held, order)
    recent = recent_when_given(watch, place, before, stage)
    if op[0] == "write":
        return unless_shown(watch, after_write(watch, chosen, place, recent))
    return unless_shown(watch, after_put(watch, chosen, place, recent))


def after_sent(watch, state, line, offsets):
    """The watched state after these cells of a tracked line were sent."""
    row, stage, memory, held, order = after_send(watch.quiet_rule, state, line, offsets)
    if watch.word == "acts":
        places = [line * watch.quiet_rule[WIDTH] + offset for offset in offsets]
        acted = tuple([place for place in places if place in watch.places])
        if order[:len(acted)] != acted:
            return None
        order = order[len(acted):]
    return unless_shown(watch, (row, stage, memory, held, order))


def dos_watched(watch, state):
    """The watched states behind the row of this one, by the stages that it can lead to; [] if it cannot be done."""
    if not can_do(watch.quiet_rule, watch.rows, state):
        return []
    return [after_row(watch, state, stage) for stage in stages_behind(watch, state[0], state[1])]


def sends_watched(watch, state):
    """Pairs (step, watched state behind it) for each send of a tracked line that can be taken."""
    pairs = []
    for line, cells in state[3]:
        for offsets in sends_of(watch.quiet_rule, cells):
            pairs.append((("send", line, offsets), after_sent(watch, state, line, offsets)))
    return pairs


def sends_at_once(watch, row):
    """The sends right behind the row: one if it writes to a line that is not tracked, else none."""
    op = operation_at(watch.rows, row)
    if op[0] != "write" or line_of(watch.quiet_rule, op[1]) in watch.lines:
        return []
    memory = (0,) * places_of(watch.quiet_rule)
    held = held_after_write(watch.quiet_rule, memory, (), op[1], 0)
    return [("send", line, sends_of(watch.quiet_rule, cells)[0]) for line, cells in held]
