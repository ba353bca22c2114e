"""The machine: what a run of a program under a rule does and tells."""

from heldwrites.errors import BadStep
from heldwrites.moves import after_step, first_state, is_step, operation_at, stamp_read, steps_from
from heldwrites.rules import STAMPING_WORDS, check_program


def states_along(rule, program, run):
    """The states before the first step of the run and after each one; BadRule, BadProgram, BadStep."""
    check_program(rule, program)
    # The document names no error for a run that is no list: its first entry is taken as bad.
    if not isinstance(run, list):
        raise BadStep(0)
    state = first_state(rule)
    states = [state]
    for place, step in enumerate(run):
        if not is_step(rule, program, state, step):
            raise BadStep(place)
        state = after_step(rule, program, state, step)
        states.append(state)
    return states


def rows_along(program, states, run):
    """Tuples (row, op, state) for each row that the run does, with the state before it; states are those along it."""
    moments = [state for state, step in zip(states, run) if step[0] == "do"]
    return [(state[0], operation_at(program, state[0]), state) for state in moments]


def given_along(program, states, run):
    """A tuple (row, place) for each stamp that the run gives, in order; states are those along it."""
    done = rows_along(program, states, run)
    return [(row, op[1]) for row, op, _ in done if op[0] in STAMPING_WORDS]


def rows_done(rule, program, run):
    """Tuples (row, op, state) for each row that the run does; BadRule, BadProgram, BadStep."""
    return rows_along(program, states_along(rule, program, run), run)


def possible_steps(rule, program, run):
    """The steps that can be taken after the run, ascending; BadRule, BadProgram, BadStep."""
    return steps_from(rule, program, states_along(rule, program, run)[-1])


def state_after(rule, program, run):
    """The state after the run; BadRule, BadProgram, BadStep."""
    return states_along(rule, program, run)[-1]


def told_by(rule, program, run):
    """A tuple (row, place, stamp) for each read of the run, in order; BadRule, BadProgram, BadStep."""
    done = rows_done(rule, program, run)
    return [(row, op[1], stamp_read(rule, state, op[1])) for row, op, state in done if op[0] == "read"]


def given_by(rule, program, run):
    """A tuple (row, place) for each stamp that the run gives, in order; BadRule, BadProgram, BadStep."""
    return given_along(program, states_along(rule, program, run), run)
