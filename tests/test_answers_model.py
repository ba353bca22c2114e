"""Points 3, 13 to 25: answers, views and what runs show, against all runs of many small programs."""

import random
import unittest

from heldwrites.answers import answer_holds, answer_to, views_after, views_close
from heldwrites.machine import state_after
from heldwrites.questions import is_question, run_shows
from histories import Exploration, dos_of, models_along, questions_of, shows, views_of
from model import small_program, some_program, some_rule


class AgainstAllRuns(unittest.TestCase):
    def check_run(self, rule, program, question, run):
        state_after(rule, program, run)
        self.assertTrue(shows(rule, program, question, run))
        self.assertFalse(shows(rule, program, question, run[:-1]))
        self.assertIs(run_shows(rule, program, question, run), True)
        self.assertLessEqual(len(run), 1000)

    def check_views(self, rule, program, question, views):
        self.assertEqual(views, sorted(set(views)))
        self.assertIs(views_close(rule, program, question, views), True)

    def compare(self, rule, program, question, most_dos):
        """The word of the answer, checked against all runs; None if there are too many states."""
        explored = Exploration(rule, program, question, most_dos)
        if explored.given_up:
            return None
        answer = answer_to(rule, program, question)
        word, told = answer
        self.assertIs(answer_holds(rule, program, question, answer), True)
        if word == "run":
            self.check_run(rule, program, question, told)
            if explored.fewest is None:
                self.assertFalse(explored.complete)
                self.assertGreater(len(dos_of(told)), most_dos)
            else:
                self.assertEqual(len(dos_of(told)), explored.fewest)
            return word
        self.assertEqual(word, "never")
        self.assertIsNone(explored.fewest)
        self.check_views(rule, program, question, told)
        if explored.complete:
            self.assertEqual(told, sorted(explored.views))
        else:
            self.assertLessEqual(explored.views, set(told))
        return word

    def compare_many(self, seed, many, loops):
        chance = random.Random(seed)
        counts = {}
        for _ in range(many):
            rule = some_rule(chance)
            program = small_program(chance, rule, chance.randint(2, 6), loops)
            questions = questions_of(rule, program)
            word = chance.choice(sorted({question[0] for question in questions}))
            question = chance.choice([question for question in questions if question[0] == word])
            with self.subTest(rule=rule, program=program, question=question):
                word = self.compare(rule, program, question, 6)
                counts[(question[0], word)] = counts.get((question[0], word), 0) + 1
        return counts

    def test_programs_that_only_go_on(self):
        counts = self.compare_many(1, 4000, False)
        for word in ("elder", "falls", "ahead", "acts"):
            for answer in ("run", "never"):
                self.assertGreater(counts.get((word, answer), 0), 3, (word, answer))

    def test_programs_with_loops(self):
        counts = self.compare_many(2, 1200, True)
        for word in ("elder", "falls", "ahead", "acts"):
            self.assertGreater(counts.get((word, "never"), 0), 3, word)


class AgainstWalks(unittest.TestCase):
    def walk(self, chance, rule, program, most):
        model, run = models_along(rule, program, [])[0], []
        for _ in range(most):
            steps = model.possible()
            if not steps:
                break
            run.append(chance.choice(steps))
            model.take(run[-1])
        return run

    def test_what_walks_show_and_their_views(self):
        chance = random.Random(3)
        shown = {}
        for _ in range(500):
            rule = some_rule(chance)
            program = some_program(chance, rule) if chance.random() < 0.5 else small_program(chance, rule, 6, True)
            run = self.walk(chance, rule, program, 20)
            for question in questions_of(rule, program):
                self.assertIs(is_question(rule, program, question), True)
                expected = shows(rule, program, question, run)
                with self.subTest(rule=rule, program=program, question=question, run=run):
                    self.assertIs(run_shows(rule, program, question, run), expected)
                    if not expected:
                        model = models_along(rule, program, run)[-1]
                        self.assertEqual(
                            views_after(rule, program, question, run), sorted(views_of(model, question)),
                        )
                shown[(question[0], expected)] = shown.get((question[0], expected), 0) + 1
        for word in ("elder", "falls", "ahead", "acts"):
            for expected in (True, False):
                self.assertGreater(shown.get((word, expected), 0), 5, (word, expected))

    def test_the_answer_is_never_better_than_no_walk(self):
        chance = random.Random(4)
        for _ in range(300):
            rule = some_rule(chance)
            program = some_program(chance, rule)
            run = self.walk(chance, rule, program, 25)
            for question in questions_of(rule, program)[::3]:
                word, told = answer_to(rule, program, question)
                if shows(rule, program, question, run):
                    self.assertEqual(word, "run")
                    self.assertLessEqual(len(dos_of(told)), len(dos_of(run)))
                elif word == "never":
                    for place in range(len(run) + 1):
                        views = views_after(rule, program, question, run[:place])
                        self.assertLessEqual(set(views), set(told))
