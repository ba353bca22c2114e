"""The machine against a second one on many programs."""

import itertools
import random
import unittest

from heldwrites.errors import BadStep
from heldwrites.machine import given_by, possible_steps, state_after, told_by
from heldwrites.rules import is_program, is_rule
from model import Model, some_program, some_rule


def all_steps(rule):
    offsets = range(-1, rule[0] + 1)
    choices = [choice for many in range(rule[0] + 1) for choice in itertools.product(offsets, repeat=many)]
    sends = [("send", line, choice) for line in range(-1, rule[1] + 1) for choice in choices]
    return [("do", row) for row in range(-2, 10)] + sends


class AgainstTheModel(unittest.TestCase):
    def walk(self, chance, rule, program, most):
        model, run = Model(rule, program), []
        for _ in range(most):
            steps = model.possible()
            self.assertEqual(possible_steps(rule, program, run), steps)
            self.assertEqual(state_after(rule, program, run), model.state())
            if not steps:
                break
            run.append(chance.choice(steps))
            model.take(run[-1])
        self.assertEqual(state_after(rule, program, run), model.state())
        self.assertEqual(told_by(rule, program, run), model.told)
        self.assertEqual(given_by(rule, program, run), model.given)
        return model, run

    def test_walks_of_many_programs(self):
        chance = random.Random(1)
        for _ in range(1500):
            rule = some_rule(chance)
            program = some_program(chance, rule)
            self.assertTrue(is_rule(rule))
            self.assertTrue(is_program(rule, program))
            self.walk(chance, rule, program, 25)

    def test_a_step_is_taken_exactly_if_it_is_possible(self):
        chance = random.Random(2)
        for _ in range(60):
            rule = some_rule(chance)
            program = some_program(chance, rule)
            model, run = self.walk(chance, rule, program, 12)
            possible = model.possible()
            for step in all_steps(rule):
                if step in possible:
                    self.assertEqual(state_after(rule, program, run + [step])[1] >= len(model.given), True)
                    continue
                with self.assertRaises(BadStep) as caught:
                    state_after(rule, program, run + [step])
                self.assertEqual(caught.exception.place, len(run))
