"""Points 29 to 32: which rules are alike, which are within others, and what parts them."""

import itertools
import random
import unittest

from heldwrites.answers import answer_to
from heldwrites.compared import carried_run, parting_program, rule_form, rule_within
from heldwrites.errors import BadProgram, BadQuestion, BadRule, BadStep, UnlikeRules
from heldwrites.machine import state_after
from heldwrites.questions import is_question
from heldwrites.rules import is_program
from histories import dos_of, questions_of, questions_shown, shows, step_shows
from model import Model, small_program, some_rule
from samples import OTHER_THINGS, PASS, chain_of, do, put, read, rule_of, send, write

LOOKS = ("first", "into", "past")
SENDS = ("whole", "parts", "filled")


def rules_of(width, lines, kinds=(), acting=()):
    """All rules that are comparable to each other."""
    parts = itertools.product((1, 2, 3), SENDS, (False, True), LOOKS)
    return [(width, lines, room, sends, eager, look, kinds, acting) for room, sends, eager, look in parts]


def form_by_definition(rule):
    width, lines, room, sends, eager, look, _, _ = rule
    if width == 1 and eager:
        return ("straight",)
    return (min(room, 2, lines), "whole" if width == 1 else sends, False if sends == "parts" else eager, look)


def within_by_definition(rule, other):
    form, wider = form_by_definition(rule), form_by_definition(other)
    if form == ("straight",):
        return True
    if wider == ("straight",) or form[0] > wider[0]:
        return False
    sends_fit = form[1] == wider[1] or form[1] == "whole"
    return sends_fit and (form[2] or not wider[2]) and LOOKS.index(form[3]) <= LOOKS.index(wider[3])


class Comparable(unittest.TestCase):
    rule = rule_of(width=2, lines=2, kinds=((0,),), acting=(0,))
    unlike = [
        rule_of(width=3, lines=2, kinds=((0,),), acting=(0,)), rule_of(width=2, lines=3, kinds=((0,),), acting=(0,)),
        rule_of(width=2, lines=2, kinds=((1,),), acting=(0,)), rule_of(width=2, lines=2, kinds=(), acting=(0,)),
        rule_of(width=2, lines=2, kinds=((0,), (0,)), acting=(0,)), rule_of(width=2, lines=2, kinds=((0,),), acting=()),
        rule_of(width=2, lines=2, kinds=((0,),), acting=(1,)), rule_of(width=2, lines=2, kinds=((0,),), acting=(0, 1)),
    ]

    def calls(self, rule, other):
        return [
            lambda: rule_within(rule, other), lambda: parting_program(rule, other),
            lambda: carried_run(rule, other, chain_of(PASS), ("falls", 0), []),
            lambda: carried_run(rule, other, None, ("falls", 0), []),
            lambda: carried_run(rule, other, chain_of(PASS), None, []),
            lambda: carried_run(rule, other, chain_of(PASS), ("falls", 0), None),
        ]

    def test_unlike_rules(self):
        for other in self.unlike:
            for call in self.calls(self.rule, other) + self.calls(other, self.rule):
                with self.assertRaises(UnlikeRules):
                    call()

    def test_room_sends_eager_and_look_may_be_unlike(self):
        other = rule_of(width=2, lines=2, room=1, sends="filled", eager=True, look="past", kinds=((0,),), acting=(0,))
        for rule, second in ((self.rule, other), (other, self.rule), (other, other)):
            rule_within(rule, second)
            parting_program(rule, second)
            carried_run(rule, second, chain_of(PASS), ("falls", 0), [])

    def test_bad_rules_come_first(self):
        for thing in OTHER_THINGS + [self.rule[:7], list(self.rule)]:
            for pair in ((thing, self.rule), (self.rule, thing), (thing, thing), (thing, self.unlike[0])):
                for call in self.calls(*pair):
                    with self.assertRaises(BadRule):
                        call()
            with self.assertRaises(BadRule):
                rule_form(thing)


class Forms(unittest.TestCase):
    def test_straight(self):
        for room, sends, look in itertools.product((1, 2, 3), SENDS, LOOKS):
            for lines in (1, 2, 3):
                rule = rule_of(width=1, lines=lines, room=room, sends=sends, eager=True, look=look)
                self.assertEqual(rule_form(rule), ("straight",))

    def test_some_forms(self):
        for rule, form in (
            (rule_of(width=1, lines=1, room=3, sends="parts", look="past"), (1, "whole", False, "past")),
            (rule_of(width=1, lines=3, room=3, sends="filled"), (2, "whole", False, "into")),
            (rule_of(width=2, lines=1, room=2, sends="filled", eager=True), (1, "filled", True, "into")),
            (rule_of(width=2, lines=3, room=1, sends="whole", eager=True), (1, "whole", True, "into")),
            (rule_of(width=3, lines=2, room=3, sends="parts", eager=True, look="first"), (2, "parts", False, "first")),
            (rule_of(width=3, lines=3, room=2, sends="parts"), (2, "parts", False, "into")),
        ):
            self.assertEqual(rule_form(rule), form)
            self.assertIs(type(rule_form(rule)), tuple)
            if len(form) == 4:
                self.assertIs(rule_form(rule)[2], form[2])

    def test_kinds_and_acting_places_do_not_matter(self):
        rule = rule_of(width=2, lines=2, sends="filled", kinds=((0,), (0, 1)), acting=(0, 3))
        self.assertEqual(rule_form(rule), (2, "filled", False, "into"))

    def test_all_rules(self):
        for width, lines in itertools.product((1, 2, 3), repeat=2):
            for rule in rules_of(width, lines):
                self.assertEqual(rule_form(rule), form_by_definition(rule))


class Within(unittest.TestCase):
    def test_all_pairs(self):
        for width, lines in itertools.product((1, 2, 3), repeat=2):
            rules = rules_of(width, lines)
            for rule, other in itertools.product(rules, repeat=2):
                told = rule_within(rule, other)
                self.assertIs(told, within_by_definition(rule, other), (rule, other))
                alike = told and rule_within(other, rule)
                self.assertEqual(alike, rule_form(rule) == rule_form(other), (rule, other))

    def test_a_parting_program_for_each_pair_that_is_not(self):
        for width, lines in itertools.product((1, 2, 3), repeat=2):
            words = {}
            rules = rules_of(width, lines, ((0,),), (0,))
            for rule, other in itertools.product(rules, repeat=2):
                parting = parting_program(rule, other)
                if within_by_definition(rule, other):
                    self.assertIsNone(parting)
                    continue
                self.check_form(rule, parting)
                for asked in (rule, other):
                    if (asked, parting) not in words:
                        words[(asked, parting)] = answer_to(asked, *parting)[0]
                self.assertEqual(words[(rule, parting)], "run", (rule, other))
                self.assertEqual(words[(other, parting)], "never", (rule, other))

    def check_form(self, rule, parting):
        self.assertEqual((type(parting), len(parting)), (tuple, 2))
        program, question = parting
        self.assertIs(is_program(rule, program), True)
        self.assertIs(is_question(rule, program, question), True)
        self.assertLessEqual(len(program), 4)
        for row, (_, fences, nexts) in enumerate(program):
            self.assertEqual(fences, ())
            self.assertEqual(nexts, (row + 1,) if row + 1 < len(program) else ())

    def test_what_is_shown_within_is_shown(self):
        chance = random.Random(1)
        compared = 0
        for _ in range(300):
            rule = some_rule(chance)
            program = small_program(chance, rule, chance.randint(2, 6), chance.random() < 0.4)
            questions = questions_shown(rule, program)
            others = [other for other in rules_of(rule[0], rule[1], rule[6], rule[7]) if rule_within(rule, other)]
            for question in chance.sample(questions, min(len(questions), 2)):
                for other in chance.sample(others, min(len(others), 8)):
                    self.assertEqual(answer_to(other, program, question)[0], "run", (rule, other, program, question))
                    compared += 1
        self.assertGreater(compared, 500)


class Carried(unittest.TestCase):
    def check(self, rule, other, program, question, run):
        """The run by the second rule, or None."""
        carried = carried_run(rule, other, program, question, run)
        if carried is None:
            return None
        self.assertIs(type(carried), list)
        state_after(other, program, carried)
        self.assertTrue(shows(other, program, question, carried))
        dos = dos_of(carried)
        self.assertEqual(dos, dos_of(run)[:len(dos)])
        return carried

    def test_to_a_rule_that_is_alike(self):
        program = chain_of(write(0), write(1), put(0))
        rule, other = rule_of(lines=3, room=2), rule_of(lines=3, room=3, sends="filled")
        run = [do(1), do(2), send(1, 0), do(-1), send(0, 0)]
        for first, second in ((rule, other), (other, rule), (rule, rule)):
            self.assertEqual(len(dos_of(self.check(first, second, program, ("falls", 0), run))), 3)
            self.assertEqual(len(dos_of(self.check(first, second, program, ("ahead", 0, 1), run))), 2)

    def test_to_a_wider_rule(self):
        program = chain_of(write(0), write(1), write(2), put(0))
        rule = rule_of(width=2, lines=2, room=1, eager=True)
        run = [do(1), send(0, 0), do(2), do(3)]
        self.assertIsNone(carried_run(rule_of(width=2), rule, program, ("ahead", 0, 1), [do(1), do(2), send(0, 0, 1)]))
        with self.assertRaises(BadStep):
            carried_run(rule, rule_of(width=2, sends="parts"), program, ("ahead", 0, 1), run)
        run = [do(1), send(0, 0), do(2), send(0, 1), do(3), do(-1)]
        self.assertIsNone(self.check(rule, rule, program, ("ahead", 0, 1), run))
        self.assertEqual(
            self.check(rule, rule_of(width=2, sends="parts"), program, ("ahead", 0, 1), run),
            [do(1), do(2), send(0, 1)],
        )

    def test_a_run_that_does_not_show_it(self):
        program = chain_of(write(0), put(0), PASS)
        run = [do(1), send(0, 0), do(2), do(-1)]
        self.assertFalse(shows(rule_of(), program, ("falls", 0), run))
        carried = self.check(rule_of(), rule_of(sends="parts"), program, ("falls", 0), run)
        self.assertEqual(dos_of(carried), [do(1), do(2)])
        for many in range(4):
            expected = many == 3
            self.assertEqual(self.check(rule_of(), rule_of(), program, ("falls", 0), run[:many]) is not None, expected)

    def test_a_run_without_rows_done(self):
        program = chain_of(write(0), put(0))
        self.assertIsNone(self.check(rule_of(), rule_of(), program, ("falls", 0), []))
        self.assertIsNone(self.check(rule_of(acting=(0,)), rule_of(acting=(0,)), program, ("acts",), []))

    def test_only_the_rows_of_the_run(self):
        program = ((PASS, (), (1, 2)), (write(0), (), (3,)), (PASS, (), (3,)), (put(0), (), ()))
        run = [do(2), do(3), do(-1)]
        self.assertIsNone(self.check(rule_of(), rule_of(), program, ("falls", 0), run))
        self.assertIsNotNone(self.check(rule_of(), rule_of(), program, ("falls", 0), [do(1), do(3), do(-1)]))

    def test_rows_that_the_second_rule_cannot_do_then(self):
        program = chain_of(write(0), read(0), put(0))
        run = [do(1), do(2), do(-1), send(0, 0)]
        self.assertIsNotNone(self.check(rule_of(), rule_of(look="past"), program, ("falls", 0), run))
        self.assertIsNone(self.check(rule_of(), rule_of(look="first"), program, ("falls", 0), run))
        self.assertIsNone(self.check(rule_of(), rule_of(eager=True), program, ("falls", 0), run))

    def test_each_question(self):
        program = chain_of(write(0), write(1), put(0), read(0))
        rule = rule_of(lines=3, room=3, look="into", acting=(0, 1))
        run = [do(1), do(2), do(3), do(-1), send(1, 0), send(0, 0)]
        for question, dos in (
            (("elder", 3), 4), (("falls", 0), 3), (("ahead", 0, 1), 2), (("ahead", 1, 2), 3), (("acts",), 2),
        ):
            carried = self.check(rule, rule_of(lines=3, room=2, look="past", acting=(0, 1)), program, question, run)
            self.assertEqual(len(dos_of(carried)), dos, question)
        self.assertIsNone(self.check(rule, rule, program, ("ahead", 2, 1), run))

    def test_one_thousand_steps(self):
        program = ((write(0), (), (0, 1)), (put(0), (), (0, 1, 2)), (read(0), (), ()))
        rule = rule_of(width=3, lines=3, room=3, sends="parts")
        run = [do(0), send(0, 0)] * 499 + [do(1), do(2)]
        self.assertEqual(len(dos_of(self.check(rule, rule, program, ("falls", 0), run))), 501)
        run = [do(0)] * 1000
        self.assertIsNone(self.check(rule, rule, program, ("falls", 0), run))
        everywhere = tuple(range(8))
        program = tuple((write(place), (), everywhere) for place in range(7)) + ((put(8), (), everywhere),)
        run = [do(place % 7) for place in range(1, 1001)]
        self.assertIsNone(self.check(rule, rule, program, ("ahead", 3, 7), run))

    def test_bad_arguments(self):
        program = chain_of(write(0), put(0))
        for thing in OTHER_THINGS + [chain_of(write(2))]:
            with self.assertRaises(BadProgram):
                carried_run(rule_of(), rule_of(room=1), thing, None, None)
        for thing in OTHER_THINGS + [("falls", 2)]:
            with self.assertRaises(BadQuestion):
                carried_run(rule_of(), rule_of(room=1), program, thing, None)
        for run, place in (([None], 0), ([do(1), do(2)], 1), ([do(1), do(-1), send(0, 0), send(0, 0)], 3)):
            with self.assertRaises(BadStep) as caught:
                carried_run(rule_of(), rule_of(room=1), program, ("falls", 0), run)
            self.assertEqual(caught.exception.place, place)

    def test_the_run_is_one_by_the_first_rule(self):
        program = chain_of(write(0), write(1))
        run = [do(1), do(-1), send(1, 0)]
        self.assertIsNone(self.check(rule_of(room=2), rule_of(room=1), program, ("ahead", 0, 1), run))
        with self.assertRaises(BadStep) as caught:
            carried_run(rule_of(room=1), rule_of(room=2), program, ("ahead", 0, 1), run)
        self.assertEqual(caught.exception.place, 1)

    def test_walks(self):
        """Some run by a rule, carried to others: there is one if the rule is within, and only such as can be."""
        chance = random.Random(2)
        counts = {}
        for _ in range(400):
            rule = some_rule(chance)
            program = small_program(chance, rule, chance.randint(2, 6), chance.random() < 0.6)
            model, run = Model(rule, program), []
            for _ in range(14):
                steps = model.possible()
                if steps:
                    run.append(chance.choice(steps))
                    model.take(run[-1])
            other = chance.choice(rules_of(rule[0], rule[1], rule[6], rule[7]))
            for question in questions_of(rule, program)[::2]:
                with self.subTest(rule=rule, other=other, program=program, question=question, run=run):
                    carried = self.check(rule, other, program, question, run)
                    shown = shows(rule, program, question, run)
                    if shown and rule_within(rule, other):
                        self.assertIsNotNone(carried)
                    if carried is None:
                        self.check_none(other, program, question, dos_of(run))
                    key = (shown, carried is not None)
                    counts[key] = counts.get(key, 0) + 1
        self.assertGreater(min(counts.get(key, 0) for key in itertools.product((True, False), repeat=2)), 3, counts)

    def check_none(self, rule, program, question, dos):
        """No run by the rule that does just these rows, or a beginning of them, shows the question."""
        wave = [(Model(rule, program), 0)]
        seen = set()
        while wave:
            further = []
            for model, done in wave:
                steps = [step for step in model.possible() if step[0] == "send"]
                if done < len(dos) and dos[done] in model.possible():
                    steps.append(dos[done])
                for step in steps:
                    after = model.copy()
                    after.take(step)
                    self.assertFalse(step_shows(question, model, step, after))
                    node = (after.state(), done + (step[0] == "do"))
                    if node not in seen:
                        seen.add(node)
                        further.append((after, node[1]))
            wave = further if len(seen) < 3000 else []
