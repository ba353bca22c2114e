"""Point 25: which lists of views close, against steps told by the codes alone."""

import random
import unittest

from heldwrites.answers import answer_holds, answer_to, views_close
from histories import questions_of
from model import small_program, some_rule
from viewsteps import ViewSteps


def some_question(chance, rule, program):
    questions = questions_of(rule, program)
    word = chance.choice(sorted({question[0] for question in questions}))
    return chance.choice([question for question in questions if question[0] == word])


def some_case(chance, rows):
    rule = some_rule(chance)
    rule = (min(rule[0], 2),) + rule[1:-1] + (tuple(place for place in rule[7] if place < min(rule[0], 2) * rule[1]),)
    program = small_program(chance, rule, chance.randint(1, rows), chance.random() < 0.5)
    return rule, program, some_question(chance, rule, program)


class AgainstViewSteps(unittest.TestCase):
    def assert_close(self, rule, program, question, views, expected):
        with self.subTest(rule=rule, program=program, question=question):
            self.assertIs(views_close(rule, program, question, views), expected)

    def test_the_answer_is_the_least_closed_list(self):
        chance = random.Random(1)
        for _ in range(1500):
            rule, program, question = some_case(chance, 6)
            steps = ViewSteps(rule, program, question)
            views, calm = steps.closure([steps.first])
            word, told = answer_to(rule, program, question)
            self.assertEqual(word, "never" if calm else "run", (rule, program, question))
            self.assert_close(rule, program, question, sorted(views), calm)
            if calm:
                self.assertEqual(told, sorted(views), (rule, program, question))
                left = chance.sample(told, len(told) - 1)
                self.assert_close(rule, program, question, left, False)
                self.assertIs(answer_holds(rule, program, question, ("never", left)), False)

    def test_greater_lists(self):
        chance = random.Random(2)
        closed = 0
        for _ in range(1500):
            rule, program, question = some_case(chance, 3)
            steps = ViewSteps(rule, program, question)
            forms = sorted(steps.of_the_form())
            views, calm = steps.closure([steps.first] + chance.sample(forms, min(len(forms), chance.randint(1, 3))))
            views = chance.sample(sorted(views), len(views))
            self.assert_close(rule, program, question, views, calm)
            self.assert_close(rule, program, question, views + views[:2], calm)
            left = views[1:]
            self.assert_close(rule, program, question, left, steps.is_closed(set(left)))
            closed += calm
        self.assertGreater(closed, 300)

    def test_the_greatest_list_takes_no_more(self):
        chance = random.Random(3)
        tried = 0
        for _ in range(150):
            rule, program, question = some_case(chance, 2)
            steps = ViewSteps(rule, program, question)
            greatest = steps.greatest_closed()
            self.assert_close(rule, program, question, sorted(greatest), steps.first in greatest)
            if steps.first not in greatest:
                continue
            for _ in range(40):
                view = spoilt(chance, chance.choice(sorted(greatest)), rule[0] * rule[1])
                self.assert_close(rule, program, question, sorted(greatest) + [view], view in greatest)
                tried += view not in greatest
        self.assertGreater(tried, 2000)


def spoilt(chance, view, places):
    """The view with a part in the place of another."""
    row, stage, lines, memory, order = view
    part = chance.choice(["row", "stage", "code", "code", "entry", "memory", "order", "order"])
    if part == "row":
        row = chance.choice([-2, -1, 0, 1, 2, 8])
    if part == "stage":
        stage = chance.choice([-1, 0, 1, 2, 3])
    if part == "code" and any(lines):
        at = chance.choice([at for at, codes in enumerate(lines) if codes])
        codes = list(lines[at])
        codes[chance.randrange(len(codes))] = chance.choice([-2, -1, 0, 1, 2, 3, 4])
        lines = lines[:at] + (tuple(codes),) + lines[at + 1:]
    if part == "entry":
        entry = tuple(chance.choice([-1, 0, 2, 2, 3]) for _ in range(chance.randint(0, 3)))
        at = chance.randrange(len(lines) + 1)
        lines = lines[:at] + ((entry,) if chance.random() < 0.8 else ()) + lines[at + 1:]
    if part == "memory":
        memory = tuple(chance.choice([0, 0, 1, 1, 2, -1]) for _ in range(chance.choice([len(memory), 0, 1, 2])))
    if part == "order":
        order = tuple(chance.choice([-1, *range(places)]) for _ in range(chance.randint(0, 3)))
    return (row, stage, lines, memory, order)
