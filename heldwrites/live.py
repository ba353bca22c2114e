"""A live machine: one run of a program, taken on and back step by step."""

from heldwrites.errors import BadPlace, BadStep, NothingToUndo
from heldwrites.moves import after_step, first_state, is_step, operation_at, sends_of, stamp_read, steps_from
from heldwrites.questions import check_question, shows_along
from heldwrites.rules import STAMPING_WORDS, check_program, is_integer_within, places_of


class Machine:
    """A rule and a program, which never change, and a run."""

    def __init__(self, rule, program):
        check_program(rule, program)
        self._rule = rule
        self._program = program
        self._steps = []
        # In the place of the acts, each state has only those of the step that led to it: else each would copy them all.
        self._states = [first_state(rule)]
        self._acts = []

    @property
    def rule(self):
        """The rule."""
        return self._rule

    @property
    def program(self):
        """The program."""
        return self._program

    def __len__(self):
        return len(self._steps)

    def __eq__(self, other):
        return (isinstance(other, Machine) and self._rule == other._rule
                and self._program == other._program and self._steps == other._steps)

    def __getitem__(self, at):
        if not is_integer_within(at, 0, places_of(self._rule) - 1):
            raise BadPlace("this is not a place of the rule")
        return self._states[-1][2][at]

    def __iter__(self):
        raise TypeError("a machine is not iterated over")

    def _take(self, step, place):
        """Take the step; BadStep with this place if it cannot be taken."""
        state = self._states[-1]
        if not is_step(self._rule, self._program, state, step):
            raise BadStep(place)
        state = after_step(self._rule, self._program, (*state[:4], ()), step)
        self._steps.append(step)
        self._states.append(state)
        self._acts.extend(state[4])

    def do(self, row):
        """Do the current row and go on to row: the stamp that was told or given, None if there is none; BadStep."""
        before = self._states[-1]
        self._take(("do", row), 0)
        op = operation_at(self._program, before[0])
        if op[0] == "read":
            return stamp_read(self._rule, before, op[1])
        if op[0] in STAMPING_WORDS:
            return before[1] + 1
        return None

    def send(self, line, offsets):
        """Send these cells of the line; BadStep."""
        self._take(("send", line, offsets), 0)

    def undo(self):
        """Take back the last step; NothingToUndo."""
        if not self._steps:
            raise NothingToUndo("the run has no step")
        self._steps.pop()
        acted = self._states.pop()[4]
        del self._acts[len(self._acts) - len(acted):]

    def state(self):
        """The state after the run."""
        return (*self._states[-1][:4], tuple(self._acts))

    def run(self):
        """The list of steps of the run."""
        return list(self._steps)

    def steps(self):
        """The steps that can be taken now, ascending."""
        return steps_from(self._rule, self._program, self._states[-1])

    def drain(self):
        """Send all lines, the least first, each at once as far as it may be sent; the list of these steps."""
        taken = []
        while self._states[-1][3]:
            line, cells = self._states[-1][3][0]
            step = ("send", line, max(sends_of(self._rule, cells), key=len))
            self._take(step, 0)
            taken.append(step)
        return taken

    def copy(self):
        """Another machine with the same rule, program and run."""
        other = Machine(self._rule, self._program)
        other._steps = list(self._steps)
        other._states = list(self._states)
        other._acts = list(self._acts)
        return other

    def try_all(self, steps):
        """Take these steps, or none of them if one cannot be taken; BadStep with its index."""
        if not isinstance(steps, list):
            raise BadStep(0)
        before = len(self._steps)
        try:
            for place, step in enumerate(steps):
                self._take(step, place)
        except BadStep:
            while len(self._steps) > before:
                self.undo()
            raise

    def shows(self, question):
        """Whether the run shows the question; BadQuestion."""
        check_question(self._rule, self._program, question)
        return shows_along(self._rule, self._program, question, self._states, self._steps, tuple(self._acts))
