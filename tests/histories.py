"""Questions and views by their definitions, from all that a second machine remembers of a run."""

from heldwrites.answers import answer_to
from model import Model


def stamping(row):
    return row[0][0] in ("write", "put")


def questions_of(rule, program):
    """All questions of the program."""
    rows = list(enumerate(program))
    pairs = [(row, other) for row, first in rows for other, second in rows
             if stamping(first) and stamping(second) and first[0][1] != second[0][1]]
    found = [("elder", row) for row, (op, _, _) in rows if op[0] == "read"]
    found += [("falls", place) for place in range(rule[0] * rule[1])]
    return found + [("ahead", row, other) for row, other in pairs] + [("acts",)]


def questions_shown(rule, program):
    """Those of them of which the answer is a run."""
    return [question for question in questions_of(rule, program) if answer_to(rule, program, question)[0] == "run"]


def asked_places(model, question):
    word, *rest = question
    if word == "acts":
        return list(model.acting)
    return rest if word == "falls" else [model.program[row][0][1] for row in rest]


def last_given(model, place):
    return max((stamp for stamp, (_, to) in enumerate(model.given, 1) if to == place), default=0)


def acting_stamps(model):
    return [stamp for stamp, (_, place) in enumerate(model.given, 1) if place in model.acting]


def stamps_of(model, row):
    return [stamp for stamp, (giver, _) in enumerate(model.given, 1) if giver == row]


def step_shows(question, before, step, after):
    """Whether the step from one model to the other shows the question."""
    places = asked_places(after, question)
    if question[0] == "elder":
        does = step[0] == "do" and before.row == question[1]
        return does and after.told[-1][2] < last_given(before, places[0])
    if question[0] == "falls":
        return after.memory[places[0]] < before.memory[places[0]]
    if question[0] == "acts":
        return after.acts != acting_stamps(after)[:len(after.acts)]
    first, second = places
    seen = after.memory[second]
    if seen not in stamps_of(after, question[2]):
        return False
    return any(after.memory[first] < stamp < seen for stamp in stamps_of(after, question[1]))


def view_with(model, question, stage, recent, memory, order):
    """The view with these entries; recent holds (place, stamp) for each cell that is recent."""
    lines = []
    for line in sorted({place // model.width for place in asked_places(model, question)}):
        codes = []
        for place in model.line_places(line):
            stamp, marked = model.cells.get(place, (None, False))
            codes.append(-1 if stamp is None else 2 * marked + ((place, stamp) in recent))
        lines.append(tuple(codes) if line in model.held_lines() else ())
    return (model.row, stage, tuple(lines), memory, order)


def waiting_order(model):
    order = []
    for stamp in acting_stamps(model):
        if stamp in model.acts:
            continue
        place = model.given[stamp - 1][1]
        if model.cells.get(place, (None,))[0] != stamp:
            return (*order, -1)
        order.append(place)
    return tuple(order)


def views_of(model, question):
    """The views that the model's run has in its last state."""
    places = asked_places(model, question)
    if question[0] == "acts":
        return {view_with(model, question, 0, (), (), waiting_order(model))}
    if question[0] == "elder":
        last = last_given(model, places[0])
        memory = (int(model.memory[places[0]] == last),)
        return {view_with(model, question, 0, {(places[0], last)}, memory, ())}
    stamps = range(len(model.given) + 1)
    if question[0] == "falls":
        recent = {(places[0], stamp) for stamp in stamps if stamp >= model.memory[places[0]]}
        return {view_with(model, question, 0, recent, (), ())}
    found = {view_with(model, question, 0, (), (0, 0), ())}
    first, second = places
    for one in stamps_of(model, question[1]):
        since = {(first, stamp) for stamp in stamps if stamp >= one}
        at_first = int(model.memory[first] >= one)
        found.add(view_with(model, question, 1, since, (at_first, 0), ()))
        for two in stamps_of(model, question[2]):
            if two > one:
                memory = (at_first, int(model.memory[second] == two))
                found.add(view_with(model, question, 2, since | {(second, two)}, memory, ()))
    return found


def models_along(rule, program, run):
    models = [Model(rule, program)]
    for step in run:
        models.append(models[-1].copy())
        models[-1].take(step)
    return models


def shows(rule, program, question, run):
    """Whether the run shows the question."""
    models = models_along(rule, program, run)
    return any(step_shows(question, *entry) for entry in zip(models, run, models[1:]))


def dos_of(run):
    return [step for step in run if step[0] == "do"]


class Exploration:
    """All runs with at most so many rows done: the fewest rows that show the question, or the views.

    complete tells whether no run has more rows; given_up, whether there were too many states to look at.
    """

    def __init__(self, rule, program, question, most_dos, most_states=1500):
        self.question, self.most_states = question, most_states
        self.fewest, self.views, self.complete = None, set(), False
        self.seen = set()
        level = self.new([Model(rule, program)])
        for done in range(most_dos + 1):
            level = self.spread(level)
            if self.fewest is not None or self.given_up:
                self.fewest = done if self.fewest is not None else None
                return
            level = self.further(level, "do")
            if self.fewest is not None:
                self.fewest = done + 1
                return
        self.complete = not level

    @property
    def given_up(self):
        return len(self.seen) > self.most_states

    def new(self, models):
        found = []
        for model in models:
            key = (model.state(), tuple(model.given))
            if key not in self.seen:
                self.seen.add(key)
                self.views |= views_of(model, self.question)
                found.append(model)
        return found

    def further(self, models, word):
        found = []
        for model in models:
            for step in model.possible():
                if step[0] == word:
                    after = model.copy()
                    after.take(step)
                    if step_shows(self.question, model, step, after):
                        self.fewest = 0
                        return []
                    found.append(after)
        return self.new(found)

    def spread(self, models):
        reached, wave = list(models), models
        while wave and not self.given_up:
            wave = self.further(wave, "send")
            reached += wave
        return reached
