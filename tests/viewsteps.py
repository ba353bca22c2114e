"""What steps do to views, told by their codes alone, and all views of the form of point 25."""

import itertools

from histories import stamping


class ViewSteps:
    """The views of a question, from one to the next; a step that shows the question leads to None."""

    def __init__(self, rule, program, question):
        self.width, self.lines, self.room, self.sends, self.eager, self.look, self.kinds, self.acting = rule
        self.program, self.question, self.word = program, question, question[0]
        if self.word == "acts":
            self.places = self.acting
        elif self.word == "falls":
            self.places = question[1:]
        else:
            self.places = tuple(program[row][0][1] for row in question[1:])
        self.tracked = sorted({place // self.width for place in self.places})
        self.first = (0, 0, ((),) * len(self.tracked), {"elder": (1,), "ahead": (0, 0)}.get(self.word, ()), ())

    def cells_of(self, view):
        """A dict of codes by place, for the open lines."""
        pairs = zip(self.tracked, view[2])
        return {line * self.width + offset: code for line, codes in pairs for offset, code in enumerate(codes)}

    def held(self, cells):
        return {place // self.width for place in cells}

    def line_places(self, line):
        return range(line * self.width, (line + 1) * self.width)

    def view(self, row, stage, cells, memory, order):
        """The view, or None if it shows the question; a line without a marked cell is closed."""
        if self.word == "ahead" and stage == 2 and memory == (0, 1):
            return None
        lines = []
        for line in self.tracked:
            codes = tuple(cells.get(place, -1) for place in self.line_places(line))
            lines.append(codes if max(codes) >= 2 else ())
        return (row, stage, tuple(lines), memory, order)

    def after_send(self, view, places):
        row, stage, _, memory, order = view
        cells = self.cells_of(view)
        for place in places:
            code = cells[place]
            cells[place] = -1
            if place not in self.places:
                continue
            if self.word == "acts":
                if code < 2 or order[:1] != (place,):
                    return None
                order = order[1:]
            elif self.word == "falls" and code in (0, 2):
                return None
            elif self.word in ("elder", "ahead"):
                at = self.places.index(place)
                memory = memory[:at] + (code % 2,) + memory[at + 1:]
        return self.view(row, stage, cells, memory, order)

    def sends_from(self, view):
        found = []
        for line, codes in zip(self.tracked, view[2]):
            places = [place for place, code in zip(self.line_places(line), codes) if code >= 2]
            if self.sends == "filled" and codes:
                found.append(self.after_send(view, list(self.line_places(line))))
            elif self.sends == "whole" and codes:
                found.append(self.after_send(view, places))
            elif self.sends == "parts":
                for many in range(1, len(places) + 1):
                    found += [self.after_send(view, part) for part in itertools.combinations(places, many)]
        return found

    def may_do(self, view):
        if view[0] == -1:
            return False
        (word, *place), fences, _ = self.program[view[0]]
        held = self.held(self.cells_of(view))
        if any(line in held for fence in fences for line in self.kinds[fence]):
            return False
        if self.eager and any(codes and min(codes) >= 2 for codes in view[2]):
            return False
        line = place[0] // self.width if place else None
        if word == "write" and line not in held and len(held) >= self.room:
            return False
        return not (word == "read" and self.look == "first" and line in held)

    def given(self, view, stage):
        """The view after the row gave its stamp, with the stage that was chosen."""
        row, before, _, memory, order = view
        cells = self.cells_of(view)
        word, place = self.program[row][0]
        line = place // self.width
        tracked = place in self.places
        at = self.places.index(place) if tracked else None
        recent = int(tracked and self.word in ("elder", "falls"))
        if tracked and self.word == "ahead":
            recent = int(stage > 0) if at == 0 else int((before, stage) == (1, 2))
        if word == "put" and tracked and self.word == "acts":
            return None if order else self.view(row, stage, cells, memory, order)
        if word == "put" and tracked:
            if self.word in ("elder", "falls") and cells.get(place, -1) >= 0:
                cells[place] -= cells[place] % 2
            if memory:
                memory = memory[:at] + (recent,) + memory[at + 1:]
        if word == "write" and line in self.tracked:
            if line not in self.held(cells) and self.sends == "filled":
                cells.update({other: self.from_memory(memory, other) for other in self.line_places(line)})
            if tracked and self.word == "acts":
                order = self.waiting(order, place)
            cells[place] = 2 + recent
            if tracked and self.word == "elder":
                memory = (0,)
        return self.view(row, stage, cells, memory, order)

    def from_memory(self, memory, place):
        if place not in self.places or self.word == "acts":
            return 0
        return 1 if self.word == "falls" else memory[self.places.index(place)]

    def waiting(self, order, place):
        if place in order:
            return order[:order.index(place)] + (-1,)
        return order if -1 in order else order + (place,)

    def dos_from(self, view):
        if not self.may_do(view):
            return []
        row, stage, lines, memory, _ = view
        (word, *place), _, nexts = self.program[row]
        found = [view]
        if word == "read" and self.question == ("elder", row):
            code = self.cells_of(view).get(place[0], -1)
            told = code % 2 if self.look == "into" and code >= 0 else memory[0]
            found = [view] if told else [None]
        if stamping(self.program[row]):
            found = [self.given(view, stage)]
            if self.word == "ahead" and stage < 2 and self.question[stage + 1] == row:
                found.append(self.given(view, stage + 1))
        return [left and (goal,) + left[1:] for left in found for goal in nexts or (-1,)]

    def behind(self, view):
        return self.sends_from(view) + self.dos_from(view)

    def closure(self, views):
        """The views with all that steps lead to from them; and whether none of the steps shows the question."""
        found, wave, calm = set(views), list(views), True
        while wave:
            after = [left for view in wave for left in self.behind(view)]
            calm = calm and None not in after
            wave = sorted({left for left in after if left is not None} - found)
            found |= set(wave)
        return found, calm

    def is_closed(self, views):
        return self.first in views and all(left in views for view in views for left in self.behind(view))

    def lines_of_the_form(self):
        entries = []
        for line in self.tracked:
            codes = []
            for place in self.line_places(line):
                least = [0] if self.sends == "filled" else [-1]
                recent = place in self.places and self.word != "acts"
                codes.append(least + [2] + ([3] if recent else []) + ([1] if recent and self.sends == "filled" else []))
            entries.append([()] + [entry for entry in itertools.product(*codes) if max(entry) >= 2])
        for lines in itertools.product(*entries):
            if sum(codes != () for codes in lines) <= self.room:
                yield lines

    def orders_of_the_form(self, lines):
        if self.word != "acts":
            return [()]
        cells = self.cells_of((0, 0, lines, (), ()))
        marked = [place for place in self.places if cells.get(place, -1) >= 2]
        cut = [order + (-1,) for many in range(len(marked) + 1) for order in itertools.permutations(marked, many)]
        return cut + list(itertools.permutations(marked))

    def of_the_form(self):
        """All views of the form."""
        rows = range(-1, len(self.program))
        entries = {"elder": 1, "ahead": 2}.get(self.word, 0)
        for lines in self.lines_of_the_form():
            codes = [self.cells_of((0, 0, lines, (), ())).get(place, -1) for place in self.places]
            for stage, memory in itertools.product(range(3), itertools.product((0, 1), repeat=entries)):
                recent = [code in (1, 3) or told for code, told in zip(codes, memory)]
                if self.word != "ahead" and stage or self.word == "ahead" and any(recent[stage:]):
                    continue
                if stage == 2 and memory == (0, 1):
                    continue
                for order, row in itertools.product(self.orders_of_the_form(lines), rows):
                    yield (row, stage, lines, memory, order)

    def greatest_closed(self):
        """All views of the form from which no steps, however many, show the question."""
        views = set(self.of_the_form())
        behind = {view: self.behind(view) for view in views}
        while True:
            bad = {view for view in views if any(left not in views for left in behind[view])}
            if not bad:
                return views
            views -= bad
