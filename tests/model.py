"""A second machine, written by places instead of lines, and rules and programs by chance."""

import itertools

from samples import PASS


class Model:
    """A machine that keeps its open lines as a dict of cells by place."""

    def __init__(self, rule, program):
        self.width, self.lines, self.room, self.sends, self.eager, self.look, self.kinds, self.acting = rule
        self.program = program
        self.row = 0
        self.memory = [0] * (self.width * self.lines)
        self.cells = {}
        self.acts, self.told, self.given = [], [], []

    def copy(self):
        other = Model.__new__(Model)
        other.__dict__.update(self.__dict__)
        other.memory, other.cells = list(self.memory), dict(self.cells)
        other.acts, other.told, other.given = list(self.acts), list(self.told), list(self.given)
        return other

    def line_places(self, line):
        return [place for place in range(len(self.memory)) if place // self.width == line]

    def held_lines(self):
        return sorted({place // self.width for place in self.cells})

    def marked(self, line):
        return [place for place in self.line_places(line) if self.cells.get(place, (0, False))[1]]

    def may_do(self):
        if self.row < 0:
            return False
        (word, *rest), fences, _ = self.program[self.row]
        held = self.held_lines()
        if any(line in self.kinds[fence] for fence in fences for line in held):
            return False
        if self.eager and any(len(self.marked(line)) == self.width for line in held):
            return False
        if word == "write" and rest[0] // self.width not in held and len(held) == self.room:
            return False
        return not (word == "read" and self.look == "first" and rest[0] // self.width in held)

    def possible(self):
        steps = set()
        if self.may_do():
            steps |= {("do", row) for row in self.program[self.row][2] or [-1]}
        for line in self.held_lines():
            marked = [place % self.width for place in self.marked(line)]
            least = {"whole": len(marked), "parts": 1, "filled": self.width}[self.sends]
            choice = range(self.width) if self.sends == "filled" else marked
            for many in range(least, len(choice) + 1):
                steps |= {("send", line, offsets) for offsets in itertools.combinations(choice, many)}
        return sorted(steps)

    def reach(self, place, stamp):
        self.memory[place] = stamp
        if place in self.acting:
            self.acts.append(stamp)

    def take(self, step):
        if step[0] == "send":
            for offset in step[2]:
                place = step[1] * self.width + offset
                self.reach(place, self.cells.pop(place)[0])
            return
        word, *rest = self.program[self.row][0]
        for place in rest:
            if word == "read":
                seen = self.cells.get(place) if self.look == "into" else None
                self.told.append((self.row, place, seen[0] if seen else self.memory[place]))
            else:
                self.given.append((self.row, place))
            if word == "put":
                self.reach(place, len(self.given))
            if word == "write":
                line = place // self.width
                if self.sends == "filled" and line not in self.held_lines():
                    self.cells.update({other: (self.memory[other], False) for other in self.line_places(line)})
                self.cells[place] = (len(self.given), True)
        self.row = step[1]

    def state(self):
        held = [(line, tuple(self.cells.get(place) for place in self.line_places(line))) for line in self.held_lines()]
        return (self.row, len(self.given), tuple(self.memory), tuple(held), tuple(self.acts))


def some(chance, things, most):
    return tuple(sorted(chance.sample(things, chance.randint(0, min(most, len(things))))))


def some_rule(chance):
    width, lines, room = (chance.randint(1, 3) for _ in range(3))
    kinds = tuple(some(chance, range(lines), 3) or (0,) for _ in range(chance.randint(0, 3)))
    sends = chance.choice(["whole", "parts", "filled"])
    look = chance.choice(["into", "past", "first"])
    return (width, lines, room, sends, chance.random() < 0.3, look, kinds, some(chance, range(width * lines), 2))


def some_program(chance, rule):
    rows = chance.randint(1, 8)
    program = []
    for _ in range(rows):
        word = chance.choice(["write", "write", "write", "put", "read", "pass"])
        op = PASS if word == "pass" else (word, chance.randrange(rule[0] * rule[1]))
        fences = some(chance, range(len(rule[6])), 3) if chance.random() < 0.3 else ()
        program.append((op, fences, some(chance, range(rows), 3)))
    return tuple(program)


def small_program(chance, rule, rows, loops):
    """A program of a few rows at a few places, so that the places meet."""
    places = chance.sample(range(rule[0] * rule[1]), min(rule[0] * rule[1], chance.randint(1, 4)))
    program = []
    for row in range(rows):
        word = chance.choice(["write"] * 4 + ["put", "put", "read", "pass"])
        op = PASS if word == "pass" else (word, chance.choice(places))
        fences = some(chance, range(len(rule[6])), 3) if chance.random() < 0.3 else ()
        nexts = some(chance, range(0 if loops else row + 1, rows), 2)
        if not nexts and row + 1 < rows and chance.random() < 0.9:
            nexts = (row + 1,)
        program.append((op, fences, nexts))
    return tuple(program)
