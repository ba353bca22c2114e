"""Points 34 to 36 against all runs of small long programs, and long ones against small ones."""

import random
import unittest

from heldwrites.longer import first_behind, first_elder, long_ahead, long_length, long_operation
from longruns import AllRuns
from model import some, some_rule

MOST = 10 ** 40
FEW = 3
STAMPING = ("write", "put")


def some_word(chance, rule, places, most):
    found = []
    for _ in range(chance.randint(1, most)):
        name = chance.choice(["write"] * 4 + ["put", "put", "read", "read", "pass"])
        op = ("pass",) if name == "pass" else (name, chance.choice(places))
        found.append((op, some(chance, range(len(rule[6])), 3) if chance.random() < 0.15 else ()))
    return tuple(found)


def some_long_program(chance, rule, pieces, length):
    """A long program with no more than so many operations, at a few places."""
    places = chance.sample(range(rule[0] * rule[1]), min(rule[0] * rule[1], chance.randint(1, 4)))
    while True:
        words = [some_word(chance, rule, places, 3) for _ in range(chance.randint(1, pieces))]
        found = tuple((word, chance.randint(1, 5)) for word in words)
        if long_length(rule, found) <= length:
            return found


class AgainstAllRuns(unittest.TestCase):
    def compare(self, rule, program):
        runs = AllRuns(rule, program)
        self.assertEqual(long_length(rule, program), len(runs.operations))
        for index, entry in enumerate(runs.operations):
            self.assertEqual(long_operation(rule, program, index), entry)
            if runs.word(index) == "write":
                self.assertEqual(first_behind(rule, program, index), runs.first_behind(index))
                for other in range(index + 1, len(runs.operations)):
                    if runs.word(other) in STAMPING:
                        shown = (index, other) in runs.ahead
                        self.assertIs(long_ahead(rule, program, index, other), shown)
        self.assertEqual(first_elder(rule, program), runs.first_elder())
        return runs

    def test_many_programs_by_all_sorts_of_rules(self):
        chance = random.Random(7)
        found = {}
        for _ in range(6000):
            rule = some_rule(chance)[:7] + ((),)
            program = some_long_program(chance, rule, 3, 13)
            with self.subTest(rule=rule, program=program):
                runs = self.compare(rule, program)
            key = (rule[3], rule[5], runs.first_elder() is not None)
            found[key] = found.get(key, 0) + 1
        self.assertEqual(len(found), 18)
        self.assertGreater(min(found.values()), 3)


class AgainstFewerTimes(unittest.TestCase):
    """A word that is done very many times, against the same word done a few times."""

    def starts(self, program):
        starts = [0]
        for word, times in program:
            starts.append(starts[-1] + len(word) * times)
        return starts

    def carry(self, few, many, number, at_end=None):
        """The number of the same operation of the longer program: in piece at_end from its end, else from the start."""
        if number is None:
            return None
        few_starts, many_starts = self.starts(few), self.starts(many)
        piece = max(piece for piece in range(len(few)) if few_starts[piece] <= number)
        if piece == at_end:
            return number - few_starts[piece + 1] + many_starts[piece + 1]
        return number - few_starts[piece] + many_starts[piece]

    def pairs(self, seed, many):
        chance = random.Random(seed)
        for _ in range(many):
            rule = some_rule(chance)
            program = some_long_program(chance, rule, 5, 60)
            times = [repeated if repeated < FEW else chance.choice([4, 11, MOST]) for _, repeated in program]
            longer = tuple((word, repeated) for (word, _), repeated in zip(program, times))
            yield rule, tuple((word, min(repeated, FEW)) for word, repeated in program), longer

    def test_first_elder(self):
        shown = 0
        for rule, few, many in self.pairs(8, 4000):
            number = first_elder(rule, few)
            shown += number is not None
            self.assertEqual(first_elder(rule, many), self.carry(few, many, number))
        self.assertGreater(shown, 100)

    def test_first_behind_a_write_of_the_first_or_the_last_time(self):
        for rule, few, many in self.pairs(9, 1500):
            starts = self.starts(few)
            for piece, (word, _) in enumerate(few):
                for offset, (op, _) in enumerate(word):
                    if op[0] == "write":
                        index = starts[piece] + offset
                        told = first_behind(rule, many, self.carry(few, many, index))
                        self.assertEqual(told, self.carry(few, many, first_behind(rule, few, index)))
                        index = starts[piece + 1] - len(word) + offset
                        told = first_behind(rule, many, self.carry(few, many, index, piece))
                        self.assertEqual(told, self.carry(few, many, first_behind(rule, few, index), piece))

    def test_long_ahead_is_shown_up_to_what_first_behind_tells(self):
        for rule, _, program in self.pairs(10, 400):
            starts = self.starts(program)
            numbers = [start + more for start, (word, _) in zip(starts, program) for more in range(len(word))]
            stamping = [number for number in numbers if long_operation(rule, program, number)[0][0] in STAMPING]
            for index in stamping:
                op = long_operation(rule, program, index)[0]
                if op[0] == "put":
                    continue
                waiting = first_behind(rule, program, index)
                for other in [number for number in stamping if number > index]:
                    later = long_operation(rule, program, other)[0]
                    alone = later[0] == "put" or later[1] // rule[0] != op[1] // rule[0] or rule[3] == "parts"
                    shown = op[1] != later[1] and alone and (waiting is None or other < waiting)
                    self.assertIs(long_ahead(rule, program, index, other), shown)
