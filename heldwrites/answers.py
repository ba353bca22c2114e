"""Answers: a run that shows a question, or the views from which no step does."""

from heldwrites.errors import BadStep
from heldwrites.lots import check_lot, program_with
from heldwrites.machine import states_along
from heldwrites.questions import check_question, run_shows
from heldwrites.searches import Atlas, first_node, nodes_by_do, nodes_by_send, paths_of, run_found, search
from heldwrites.searches import steps_to_showing
from heldwrites.views import is_view, view_of, watched_with
from heldwrites.watched import Watch, after_row, after_sent, first_watched, stages_behind


def views_of(atlas, came):
    """The views of the nodes that came by some step, ascending."""
    return sorted([view_of(atlas.watch, atlas.state_at(row, number)) for row, number in came])


def answer_by(rule, program, question):
    """The answer to the question of the program, none of which is looked at again."""
    atlas = Atlas(Watch(rule, program, question))
    paths = paths_of(program)
    came = search(atlas, paths)
    if None in came:
        return ("run", steps_to_showing(atlas, paths, came))
    return ("never", views_of(atlas, came))


def run_showing(rule, program, question):
    """A run of the program that shows the question, None if there is none."""
    return run_found(Atlas(Watch(rule, program, question)), paths_of(program))


def answer_to(rule, program, question, *, lot=()):
    """A run that shows the question, or all views that runs have; BadRule, BadProgram, BadQuestion, BadSpot."""
    check_question(rule, program, question)
    check_lot(rule, program, lot)
    return answer_by(rule, program_with(program, lot), question)


def watched_behind(watch, state, step):
    """The watched states that the step of a run leads to, without those ways in which it shows the question."""
    if step[0] == "do":
        states = [after_row(watch, state, stage) for stage in stages_behind(watch, state[0], state[1])]
        return [(step[1], *left[1:]) for left in states if left is not None]
    if step[1] not in watch.lines:
        return [state]
    left = after_sent(watch, state, step[1], step[2])
    return [] if left is None else [left]


def watched_after(watch, run):
    """All watched states that the run has in its last state."""
    states = [first_watched(watch)]
    for step in run:
        found = {left: True for state in states for left in watched_behind(watch, state, step)}
        states = list(found)
    return states


def views_after(rule, program, question, run):
    """The views that the run has in its last state, ascending; BadRule, BadProgram, BadQuestion, BadStep."""
    check_question(rule, program, question)
    states_along(rule, program, run)
    watch = Watch(rule, program, question)
    return sorted([view_of(watch, state) for state in watched_after(watch, run)])


def stays_within(atlas, paths, nodes, node):
    """Whether each step from the node leads to one of the nodes; one that shows the question does not."""
    pairs = nodes_by_send(atlas, paths, node) + nodes_by_do(atlas, paths, node)
    return all([goal in nodes for _, goal in pairs])


def views_close(rule, program, question, views):
    """Whether the object is a list of views that no step leads out of; BadRule, BadProgram, BadQuestion."""
    check_question(rule, program, question)
    watch = Watch(rule, program, question)
    if not isinstance(views, list) or not all([is_view(watch, view) for view in views]):
        return False
    atlas = Atlas(watch)
    paths = paths_of(program)
    states = [watched_with(watch, view) for view in views]
    nodes = {(state[0], atlas.number_of(state)): True for state in states}
    if first_node(atlas) not in nodes:
        return False
    for node in list(nodes):
        if not stays_within(atlas, paths, nodes, node):
            return False
    return True


def run_holds(rule, program, question, steps):
    """Whether the object is a run that shows the question."""
    try:
        return run_shows(rule, program, question, steps)
    except BadStep:
        return False


def views_hold(rule, program, question, views):
    """Whether the object is a list of just the views that runs have, and no run shows the question."""
    watch = Watch(rule, program, question)
    if not isinstance(views, list) or not all([is_view(watch, view) for view in views]):
        return False
    return answer_by(rule, program, question) == ("never", sorted(set(views)))


def answer_holds(rule, program, question, answer):
    """Whether the object is an answer that shows what it says; BadRule, BadProgram, BadQuestion."""
    check_question(rule, program, question)
    if not isinstance(answer, tuple) or len(answer) != 2 or not isinstance(answer[0], str):
        return False
    word, shown = answer
    if word == "run":
        return run_holds(rule, program, question, shown)
    return word == "never" and views_hold(rule, program, question, shown)
