"""The errors that the package raises."""


class GatherError(ValueError):
    """Any error of the package."""


class BadRule(GatherError):
    """The object is not a rule."""


class BadProgram(GatherError):
    """The object is not a program of the rule."""


class BadStep(GatherError):
    """An entry of a run is not a step that can be taken then; place is its index."""

    def __init__(self, place):
        super().__init__(f"entry {place} is not a step that can be taken then")
        self.place = place


class BadQuestion(GatherError):
    """The object is not a question of the program."""


class BadSpot(GatherError):
    """The object is not a spot, a list of spots or a lot."""


class TooMany(GatherError):
    """There are more of something than are allowed."""


class NotEnough(GatherError):
    """The fences of a lot leave a question that can be shown."""


class UnlikeRules(GatherError):
    """The two rules are not comparable."""


class BadLong(GatherError):
    """The object is not a long program of the rule."""


class BadIndex(GatherError):
    """The object is not the number of an operation that is asked for."""


class NothingToUndo(GatherError):
    """The run has no step that could be taken back."""


class BadPlace(GatherError):
    """The object is not a place of the rule."""


class BadText(GatherError):
    """A text is not of its form; line is the index of the line at fault."""

    def __init__(self, line):
        super().__init__(f"line {line} is not of its form")
        self.line = line


class BadCommand(GatherError):
    """The object is not a row that the desk answers."""
