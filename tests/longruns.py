"""Long programs written out operation by operation, and what all runs of them tell."""

from model import Model


def written_out(long_program):
    """All operations (op, fences) one after the other."""
    return [entry for word, times in long_program for _ in range(times) for entry in word]


def rows_of(operations):
    """The rows, as many as there are, that do these operations one after the other."""
    last = len(operations) - 1
    return tuple((op, fences, () if row == last else (row + 1,)) for row, (op, fences) in enumerate(operations))


class AllRuns:
    """What some run of a long program does, from all states that runs have.

    early holds (write, operation) if the operation is done while memory has less than the write's stamp at its place;
    ahead holds (write, later) if memory shows the stamp of the later one at such a moment; elder holds the reads.
    """

    def __init__(self, rule, long_program):
        self.operations = written_out(long_program)
        self.early, self.ahead, self.elder = set(), set(), set()
        self.states = 0
        first = Model(rule, rows_of(self.operations))
        seen, wave = {first.state()[:4]}, [first]
        while wave:
            found = []
            for model in wave:
                self.states += 1
                self.look(model)
                for step in model.possible():
                    after = model.copy()
                    after.take(step)
                    if after.state()[:4] not in seen:
                        seen.add(after.state()[:4])
                        found.append(after)
            wave = found

    def look(self, model):
        """Take down what the state of the model shows, and what is done next if it can be."""
        stamps = {row: stamp for stamp, (row, _) in enumerate(model.given, 1)}
        held_back = [row for row, stamp in stamps.items() if self.word(row) == "write"
                     and model.memory[self.place(row)] < stamp]
        for row in held_back:
            for later, stamp in stamps.items():
                if later > row and model.memory[self.place(later)] == stamp and self.place(later) != self.place(row):
                    self.ahead.add((row, later))
        if model.may_do():
            self.early |= {(row, model.row) for row in held_back}
            if self.word(model.row) == "read":
                self.look_at_read(model, stamps)

    def look_at_read(self, model, stamps):
        place = self.place(model.row)
        last = max((stamp for row, stamp in stamps.items() if self.place(row) == place), default=0)
        after = model.copy()
        after.take(("do", -1))
        if after.told[-1][2] < last:
            self.elder.add(model.row)

    def word(self, row):
        return self.operations[row][0][0]

    def place(self, row):
        return self.operations[row][0][1]

    def first_behind(self, write):
        later = range(write + 1, len(self.operations))
        return next((row for row in later if (write, row) not in self.early), None)

    def first_elder(self):
        return min(self.elder, default=None)
