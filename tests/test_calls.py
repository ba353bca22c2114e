"""Points 2 and 6 for the functions of stages 3 to 6: names, the order of errors, arguments that stay, new lists."""

import copy
import inspect
import itertools
import unittest

from heldwrites import answers, compared, fences, questions
from heldwrites.answers import answer_holds, answer_to, views_after, views_close
from heldwrites.compared import carried_run, parting_program, rule_form, rule_within
from heldwrites.errors import (
    BadProgram, BadQuestion, BadRule, BadSpot, BadStep, NotEnough, TooMany, UnlikeRules,
)
from heldwrites.fences import (
    broken_spots, least_lots, runs_against, shown_falls, shown_pairs, shown_reads, with_fences,
)
from heldwrites.questions import is_question, run_shows
from samples import OTHER_THINGS, chain_of, do, put, read, rule_of, send, write

RULE = rule_of(width=2, lines=2, kinds=((0,), (1,)), acting=(0, 2))
WIDER = rule_of(width=2, lines=2, sends="parts", kinds=((0,), (1,)), acting=(0, 2))
UNLIKE = rule_of(width=2, lines=3, kinds=((0,), (1,)), acting=(0, 2))
PROGRAM = chain_of(write(0), write(2), put(0), read(0), fences={3: (1,)})
CALM = ("falls", 1)
SHOWN = ("falls", 0)
RUN = [do(1), do(2), do(3), send(0, 0)]
SPOTS = [(row, kind) for row in range(4) for kind in range(2)]
VIEWS = answer_to(RULE, PROGRAM, CALM)[1]

BAD_RULE, BAD_PROGRAM = (RULE[:7], BadRule), (PROGRAM[:3], BadProgram)
BAD_QUESTION, BAD_RUN, BAD_LOT = (("falls", 9), BadQuestion), ([do(1), None], BadStep), (((0, 9),), BadSpot)

# The arguments of a good call by name, and for some of them what else raises which error, in the order of the errors.
FIRST_TWO = [("rule", *BAD_RULE), ("program", *BAD_PROGRAM)]
ASKED = FIRST_TWO + [("question", *BAD_QUESTION)]
CALLS = [
    (is_question, {"rule": RULE, "program": PROGRAM, "thing": CALM}, FIRST_TWO),
    (run_shows, {"rule": RULE, "program": PROGRAM, "question": SHOWN, "run": RUN}, ASKED + [("run", *BAD_RUN)]),
    (answer_to, {"rule": RULE, "program": PROGRAM, "question": CALM, "lot": ((1, 0),)}, ASKED + [("lot", *BAD_LOT)]),
    (views_after, {"rule": RULE, "program": PROGRAM, "question": CALM, "run": RUN}, ASKED + [("run", *BAD_RUN)]),
    (views_close, {"rule": RULE, "program": PROGRAM, "question": CALM, "views": VIEWS}, ASKED),
    (answer_holds, {"rule": RULE, "program": PROGRAM, "question": CALM, "answer": ("never", VIEWS)}, ASKED),
    (with_fences, {"rule": RULE, "program": PROGRAM, "lot": ((1, 0),)}, FIRST_TWO + [("lot", *BAD_LOT)]),
    (least_lots, {"rule": RULE, "program": PROGRAM, "questions": [SHOWN, CALM], "spots": SPOTS[:5]}, FIRST_TWO + [
        ("questions", [], BadQuestion), ("spots", [(0, 9)], BadSpot), ("spots", SPOTS[:6], TooMany),
    ]),
    (runs_against, {"rule": RULE, "program": PROGRAM, "questions": [SHOWN], "lot": ((1, 0), (2, 0))}, FIRST_TWO + [
        ("questions", [CALM] * 4, BadQuestion), ("lot", *BAD_LOT), ("lot", (), NotEnough),
    ]),
    (broken_spots, {"rule": RULE, "program": PROGRAM, "run": RUN}, FIRST_TWO + [("run", *BAD_RUN)]),
    (shown_pairs, {"rule": RULE, "program": PROGRAM}, FIRST_TWO),
    (shown_reads, {"rule": RULE, "program": PROGRAM}, FIRST_TWO),
    (shown_falls, {"rule": RULE, "program": PROGRAM}, FIRST_TWO),
    (rule_form, {"rule": RULE}, [("rule", *BAD_RULE)]),
    (rule_within, {"rule": RULE, "other": WIDER}, [
        ("rule", *BAD_RULE), ("other", *BAD_RULE), ("other", UNLIKE, UnlikeRules),
    ]),
    (parting_program, {"rule": WIDER, "other": RULE}, [
        ("rule", *BAD_RULE), ("other", *BAD_RULE), ("other", UNLIKE, UnlikeRules),
    ]),
    (carried_run, {"rule": RULE, "other": WIDER, "program": PROGRAM, "question": SHOWN, "run": RUN}, [
        ("rule", *BAD_RULE), ("other", *BAD_RULE), ("other", UNLIKE, UnlikeRules), *ASKED[1:], ("run", *BAD_RUN),
    ]),
]


def parameters(function):
    return [(name, entry.kind is entry.KEYWORD_ONLY) for name, entry in inspect.signature(function).parameters.items()]


class Names(unittest.TestCase):
    def test_each_is_defined_where_the_interface_lists_it(self):
        homes = {questions: 2, answers: 4, fences: 7, compared: 4}
        for function, _, _ in CALLS:
            home = inspect.getmodule(function)
            self.assertIs(getattr(home, function.__name__), function)
            homes[home] -= 1
        self.assertEqual(set(homes.values()), {0})

    def test_by_the_names_of_the_interface(self):
        for function, named, _ in CALLS:
            self.assertEqual([name for name, _ in parameters(function)], list(named), function.__name__)
            by_name = [name for name, only in parameters(function) if only]
            self.assertEqual(by_name, ["lot"] if function is answer_to else [])

    def test_by_position_as_by_name(self):
        for function, named, _ in CALLS:
            expected = function(**named)
            backwards = dict(reversed(list(named.items())))
            self.assertEqual(function(**backwards), expected)
            by_name = [name for name, only in parameters(function) if only]
            values = [value for name, value in named.items() if name not in by_name]
            self.assertEqual(function(*values, **{name: named[name] for name in by_name}), expected)
            self.assertEqual(function(values[0], **{name: named[name] for name in list(named)[1:]}), expected)


class Errors(unittest.TestCase):
    def assert_raises(self, error, function, named):
        with self.assertRaises(error) as caught:
            function(**named)
        self.assertIs(type(caught.exception), error, function.__name__)

    def test_one_argument_spoilt(self):
        for function, named, spoilt in CALLS:
            function(**named)
            for name, thing, error in spoilt:
                self.assert_raises(error, function, {**named, name: thing})

    def test_two_arguments_spoilt_at_a_time(self):
        for function, named, spoilt in CALLS:
            for (name, thing, error), (other, second, _) in itertools.combinations(spoilt, 2):
                if name != other:
                    self.assert_raises(error, function, {**named, other: second, name: thing})

    def test_unlike_rules_stand_behind_bad_rules_and_ahead_of_the_rest(self):
        for function in (rule_within, parting_program):
            self.assert_raises(BadRule, function, {"rule": None, "other": UNLIKE})
        named = CALLS[-1][1]
        for name in ("program", "question", "run"):
            self.assert_raises(UnlikeRules, carried_run, {**named, "rule": UNLIKE, name: None})
            self.assert_raises(BadRule, carried_run, {**named, "other": None, name: None})

    def test_any_object_in_the_place_of_a_rule_or_a_program(self):
        for function, named, _ in CALLS:
            for thing in OTHER_THINGS:
                for name, error in (("rule", BadRule), ("other", BadRule), ("program", BadProgram)):
                    if name in named:
                        self.assert_raises(error, function, {**named, name: thing})

    def test_any_object_in_the_place_of_a_question(self):
        for function, named, _ in CALLS:
            for thing in OTHER_THINGS:
                if "question" in named:
                    self.assert_raises(BadQuestion, function, {**named, "question": thing})

    def test_any_object_in_a_run(self):
        for function, named, _ in CALLS:
            for thing in OTHER_THINGS:
                if "run" in named:
                    with self.assertRaises(BadStep) as caught:
                        function(**{**named, "run": RUN[:2] + [thing] + RUN[2:]})
                    self.assertEqual(caught.exception.place, 2)


class Values(unittest.TestCase):
    def test_arguments_stay_as_they_were(self):
        for function, named, spoilt in CALLS:
            for name, thing, _ in [(None, None, None)] + spoilt:
                passed = copy.deepcopy(named) if name is None else {**copy.deepcopy(named), name: thing}
                before = copy.deepcopy(passed)
                try:
                    function(**passed)
                except ValueError:
                    pass
                self.assertEqual(passed, before, function.__name__)

    def test_equal_calls_return_equal_results(self):
        for function, named, _ in CALLS:
            self.assertEqual(function(**named), function(**copy.deepcopy(named)), function.__name__)

    def test_returned_lists_are_new(self):
        cases = [(function, named) for function, named, _ in CALLS]
        cases += [
            (answer_to, {"rule": RULE, "program": PROGRAM, "question": SHOWN}),
            (runs_against, {"rule": RULE, "program": PROGRAM, "questions": [CALM], "lot": ()}),
            (least_lots, {"rule": RULE, "program": PROGRAM, "questions": [SHOWN], "spots": []}),
            (broken_spots, {"rule": RULE, "program": PROGRAM, "run": []}),
        ]
        many = 0
        for function, named in cases:
            passed = copy.deepcopy(named)
            first = function(**passed)
            kept = copy.deepcopy(first)
            for found in lists_in(first):
                many += 1
                found.append(None)
                found[0] = None
            self.assertEqual(function(**passed), kept, function.__name__)
            self.assertEqual(passed, named, function.__name__)
        self.assertGreaterEqual(many, 13)

    def test_no_reference_to_an_argument_is_kept(self):
        for function, named, _ in CALLS:
            passed = copy.deepcopy(named)
            first = function(**passed)
            kept = copy.deepcopy(first)
            for found in [part for value in passed.values() for part in lists_in(value)]:
                found.clear()
            self.assertEqual(first, kept, function.__name__)
            self.assertEqual(function(**named), kept, function.__name__)

    def test_the_kinds_of_values(self):
        for function, named, _ in CALLS:
            told = function(**named)
            kind = bool
            if function in (answer_to, with_fences, rule_form, parting_program):
                kind = tuple
            elif function not in (is_question, run_shows, views_close, answer_holds, rule_within):
                kind = list
            self.assertIs(type(told), kind, function.__name__)


def lists_in(thing):
    """All lists in the value, itself or within tuples and lists."""
    if not isinstance(thing, (list, tuple)):
        return []
    found = [thing] if isinstance(thing, list) else []
    return found + [part for entry in thing for part in lists_in(entry)]
