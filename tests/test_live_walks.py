"""Points 37 and 38: machines that go on by chance, against the functions that take a whole run."""

import random
import unittest

from heldwrites.errors import BadStep
from heldwrites.live import Machine
from heldwrites.machine import possible_steps, state_after, told_by
from heldwrites.questions import run_shows
from histories import questions_of
from model import some_program, some_rule


class Walks(unittest.TestCase):
    def compare(self, machine, run):
        rule, program = machine.rule, machine.program
        self.assertEqual((machine.run(), len(machine)), (run, len(run)))
        self.assertEqual(machine.state(), state_after(rule, program, run))
        self.assertEqual(machine.steps(), possible_steps(rule, program, run))

    def take(self, machine, run, step):
        """Take the step, and look at what do returns."""
        before = machine.state()
        if step[0] == "send":
            self.assertIsNone(machine.send(step[1], step[2]))
        else:
            told = machine.do(step[1])
            word = machine.program[before[0]][0][0]
            if word == "read":
                self.assertEqual(told, told_by(machine.rule, machine.program, run + [step])[-1][2])
            else:
                self.assertEqual(told, before[1] + 1 if word in ("write", "put") else None)
        return run + [step]

    def drain(self, machine, run):
        held = machine.state()[3]
        steps = machine.drain()
        self.assertEqual([step[:2] for step in steps], [("send", line) for line, _ in held])
        self.assertEqual(machine.state()[3], ())
        return run + steps

    def try_all(self, chance, machine, run):
        steps, other = [], machine.copy()
        while other.steps() and len(steps) < 4:
            steps.append(chance.choice(other.steps()))
            other.try_all(steps[-1:])
        if chance.random() < 0.5:
            machine.try_all(steps)
            self.assertEqual(machine, other)
            return run + steps
        with self.assertRaises(BadStep) as caught:
            machine.try_all(steps + [("send", 0, ())])
        self.assertEqual(caught.exception.place, len(steps))
        return run

    def walk(self, chance, machine):
        run = []
        for _ in range(30):
            choice = chance.random()
            if choice < 0.15 and run:
                machine.undo()
                run = run[:-1]
            elif choice < 0.2:
                run = self.drain(machine, run)
            elif choice < 0.3:
                run = self.try_all(chance, machine, run)
            elif machine.steps():
                run = self.take(machine, run, chance.choice(machine.steps()))
            self.compare(machine, run)
        for question in questions_of(machine.rule, machine.program):
            self.assertIs(machine.shows(question), run_shows(machine.rule, machine.program, question, run))

    def test_many_machines(self):
        chance = random.Random(11)
        for _ in range(250):
            rule = some_rule(chance)
            self.walk(chance, Machine(rule, some_program(chance, rule)))
