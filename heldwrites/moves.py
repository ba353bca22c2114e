"""Single steps: which can be taken in a state, and the state that each leaves.

A state is a tuple (row, stamps, memory, held, acts).
"""

from heldwrites.rules import ACTING, EAGER, KINDS, LOOK, ROOM, SENDS, WIDTH
from heldwrites.rules import is_integer, line_of, offset_of, places_of

STOPPED = -1


def first_state(rule):
    """The state at the beginning."""
    return (0, 0, (0,) * places_of(rule), (), ())


def operation_at(program, row):
    """The operation of the row."""
    return program[row][0]


def cells_of(held, line):
    """The cells of the line, None if it is not open."""
    for number, cells in held:
        if number == line:
            return cells
    return None


def marked_offsets(cells):
    """The offsets of the marked cells, ascending."""
    return tuple([offset for offset, cell in enumerate(cells) if cell is not None and cell[1]])


def is_full(cells):
    """Whether all cells are marked."""
    return len(marked_offsets(cells)) == len(cells)


def is_fenced(rule, fences, held):
    """Whether a line of one of the fences' kinds is open."""
    for fence in fences:
        for line in rule[KINDS][fence]:
            if cells_of(held, line) is not None:
                return True
    return False


def must_wait(rule, op, held):
    """Whether the operation cannot be done with these lines open."""
    if op[0] == "write":
        return len(held) >= rule[ROOM] and cells_of(held, line_of(rule, op[1])) is None
    if op[0] == "read" and rule[LOOK] == "first":
        return cells_of(held, line_of(rule, op[1])) is not None
    return False


def can_do(rule, program, state):
    """Whether the current row can be done."""
    row, _, _, held, _ = state
    if row == STOPPED:
        return False
    op, fences, _ = program[row]
    if rule[EAGER] and any([is_full(cells) for _, cells in held]):
        return False
    return not is_fenced(rule, fences, held) and not must_wait(rule, op, held)


def parts_of(offsets):
    """All tuples of one or more of the offsets, ascending."""
    parts = []
    for offset in offsets:
        longer = [(*part, offset) for part in parts]
        parts = [*parts, *longer, (offset,)]
    return sorted(parts)


def sends_of(rule, cells):
    """The tuples of offsets that one send of a line with these cells can have, ascending."""
    if rule[SENDS] == "filled":
        return [tuple(range(len(cells)))]
    marked = marked_offsets(cells)
    if rule[SENDS] == "parts":
        return parts_of(marked)
    return [marked]


def rows_behind(program, row):
    """The rows that the row can go on to, ascending."""
    nexts = program[row][2]
    if not nexts:
        return (STOPPED,)
    return nexts


def steps_from(rule, program, state):
    """The steps that can be taken in the state, ascending."""
    steps = []
    if can_do(rule, program, state):
        steps = [("do", row) for row in rows_behind(program, state[0])]
    for line, cells in state[3]:
        for offsets in sends_of(rule, cells):
            steps.append(("send", line, offsets))
    return steps


def has_step_form(thing):
    """Whether the object is built as a step is, whether it can be taken or not."""
    if not isinstance(thing, tuple) or not thing or not isinstance(thing[0], str):
        return False
    if len(thing) == 2:
        return thing[0] == "do" and is_integer(thing[1])
    if len(thing) != 3 or thing[0] != "send":
        return False
    _, line, offsets = thing
    return is_integer(line) and isinstance(offsets, tuple) and all([is_integer(offset) for offset in offsets])


def is_step(rule, program, state, thing):
    """Whether the object is a step that can be taken in the state."""
    # The form first: Python calls ("do", True) and ("do", 1) equal.
    return has_step_form(thing) and thing in steps_from(rule, program, state)


def held_with(held, line, cells):
    """The open lines, with these cells in the line: it is closed if none is marked."""
    kept = [entry for entry in held if entry[0] != line]
    if marked_offsets(cells):
        kept.append((line, cells))
    # No line stands here twice, so that cells are never compared.
    return tuple(sorted(kept))


def fresh_cells(rule, memory, line):
    """The cells of a line that is opened now."""
    width = rule[WIDTH]
    if rule[SENDS] == "filled":
        return tuple([(stamp, False) for stamp in memory[line * width:line * width + width]])
    return (None,) * width


def held_after_write(rule, memory, held, place, stamp):
    """The open lines after the stamp was given to the place by a write."""
    line = line_of(rule, place)
    cells = cells_of(held, line)
    if cells is None:
        cells = fresh_cells(rule, memory, line)
    changed = list(cells)
    changed[offset_of(rule, place)] = (stamp, True)
    return held_with(held, line, tuple(changed))


def into_memory(rule, memory, acts, writes):
    """The memory and the acts after pairs (place, stamp), ascending, were written."""
    changed = list(memory)
    seen = list(acts)
    for place, stamp in writes:
        changed[place] = stamp
        if place in rule[ACTING]:
            seen.append(stamp)
    return (tuple(changed), tuple(seen))


def after_do(rule, program, state, row):
    """The state after the current row was done and the program went on to row."""
    current, stamps, memory, held, acts = state
    op = operation_at(program, current)
    if op[0] == "write":
        stamps = stamps + 1
        held = held_after_write(rule, memory, held, op[1], stamps)
    elif op[0] == "put":
        stamps = stamps + 1
        memory, acts = into_memory(rule, memory, acts, [(op[1], stamps)])
    return (row, stamps, memory, held, acts)


def after_send(rule, state, line, offsets):
    """The state after these cells of the line were sent."""
    row, stamps, memory, held, acts = state
    cells = cells_of(held, line)
    writes = [(line * rule[WIDTH] + offset, cells[offset][0]) for offset in offsets]
    memory, acts = into_memory(rule, memory, acts, writes)
    left = [None if offset in offsets else cell for offset, cell in enumerate(cells)]
    return (row, stamps, memory, held_with(held, line, tuple(left)), acts)


def after_step(rule, program, state, step):
    """The state after a step that can be taken in the state."""
    if step[0] == "do":
        return after_do(rule, program, state, step[1])
    return after_send(rule, state, step[1], step[2])


def stamp_read(rule, state, place):
    """The stamp that a read of the place tells in the state."""
    _, _, memory, held, _ = state
    cells = cells_of(held, line_of(rule, place))
    if rule[LOOK] == "into" and cells is not None:
        cell = cells[offset_of(rule, place)]
        if cell is not None:
            return cell[0]
    return memory[place]
