"""Points 26 to 28: lots of fences, what they are good for, and what a program shows."""

import itertools
import random
import unittest

from heldwrites.answers import answer_to
from heldwrites.errors import BadQuestion, BadSpot, BadStep, NotEnough, TooMany
from heldwrites.fences import (
    broken_spots, least_lots, runs_against, shown_falls, shown_pairs, shown_reads, with_fences,
)
from heldwrites.machine import state_after
from histories import models_along, questions_of, questions_shown, shows
from model import Model, small_program, some_rule
from samples import OTHER_THINGS, PASS, Strange, chain_of, do, put, read, rule_of, send, write

RULE = rule_of(lines=3, room=3, kinds=((0,), (1,), (0, 1)))
PROGRAM = chain_of(write(0), write(1), put(2), put(0), fences={2: (0,)})
NO_SPOTS = (
    (0, 3), (4, 0), (-1, 0), (0, -1), (10 ** 59, 0), (0,), (0, 0, 0), [0, 0], (True, 0), (0, True), (False, 0),
    (0, False), ("0", 0), (0, "0"), (None, 0), (0, None), ((0, 0),), (Strange(), 0), (0, Strange()), None, 0, "00",
)


def all_spots(rule, program):
    return [(row, kind) for row in range(len(program)) for kind in range(len(rule[6]))]


def can_show(rule, program, questions, lot):
    return [question for question in questions if answer_to(rule, program, question, lot=lot)[0] == "run"]


def parts_of(spots):
    return [lot for many in range(len(spots) + 1) for lot in itertools.combinations(sorted(spots), many)]


def least_by_definition(rule, program, questions, spots):
    found = []
    for lot in parts_of(spots):
        fewer = [tuple(spot for spot in lot if spot != left) for left in lot]
        if not can_show(rule, program, questions, lot):
            if all(can_show(rule, program, questions, other) for other in fewer):
                found.append(lot)
    return sorted(found)


class WithFences(unittest.TestCase):
    def test_the_fences_of_the_rows_with_those_of_the_lot(self):
        self.assertEqual(with_fences(RULE, PROGRAM, ()), PROGRAM)
        for lot, fences in (
            (((0, 1),), {0: (1,), 2: (0,)}), (((2, 0),), {2: (0,)}), (((2, 1), (2, 2)), {2: (0, 1, 2)}),
            (((1, 0), (1, 2), (2, 2), (3, 1)), {1: (0, 2), 2: (0, 2), 3: (1,)}),
            (tuple(all_spots(RULE, PROGRAM)), {row: (0, 1, 2) for row in range(4)}),
        ):
            fenced = with_fences(RULE, PROGRAM, lot)
            self.assertEqual(fenced, chain_of(write(0), write(1), put(2), put(0), fences=fences))
            self.assertEqual([type(part) for part in (fenced, fenced[2], fenced[2][1])], [tuple] * 3)

    def test_a_fence_below_that_of_the_row(self):
        program = chain_of(write(0), PASS, fences={1: (2,)})
        self.assertEqual(with_fences(RULE, program, ((1, 0),))[1][1], (0, 2))

    def test_nexts_and_operations_stay(self):
        program = ((write(0), (), (0, 1)), (PASS, (1,), ()), (read(2), (), (0, 2)))
        self.assertEqual(with_fences(RULE, program, ((0, 0), (2, 1))), (
            (write(0), (0,), (0, 1)), (PASS, (1,), ()), (read(2), (1,), (0, 2)),
        ))

    def test_bad_lots(self):
        lots = [(spot,) for spot in NO_SPOTS] + [((0, 0), spot) for spot in NO_SPOTS] + [
            ((0, 0), (0, 0)), ((0, 1), (0, 0)), ((1, 0), (0, 1)), ((0, 0), (2, 0), (1, 0)), [], [(0, 0)], None,
        ]
        for lot in lots + [thing for thing in OTHER_THINGS if not (type(thing) is tuple and len(thing) == 0)]:
            with self.subTest(lot=repr(lot)[:80]):
                for call in (
                    lambda: with_fences(RULE, PROGRAM, lot), lambda: runs_against(RULE, PROGRAM, [("falls", 0)], lot),
                    lambda: answer_to(RULE, PROGRAM, ("falls", 0), lot=lot),
                ):
                    with self.assertRaises(BadSpot):
                        call()

    def test_without_kinds_there_are_no_spots(self):
        program = chain_of(write(0))
        self.assertEqual(with_fences(rule_of(), program, ()), program)
        with self.assertRaises(BadSpot):
            with_fences(rule_of(), program, ((0, 0),))

    def test_more_fences_show_no_more(self):
        chance = random.Random(1)
        for _ in range(150):
            rule, program, questions, spots = some_fences(chance)
            lot = tuple(sorted(spots))
            for question in questions:
                if answer_to(rule, program, question)[0] == "never":
                    self.assertEqual(answer_to(rule, program, question, lot=lot)[0], "never")
                fenced = with_fences(rule, program, lot)
                self.assertEqual(answer_to(rule, program, question, lot=lot), answer_to(rule, fenced, question))


def some_fences(chance):
    """A rule with kinds, a program, up to three questions of which it often shows some, and up to five spots."""
    rule = some_rule(chance)
    lines = range(rule[1])
    kinds = tuple(tuple(sorted(chance.sample(lines, chance.randint(1, rule[1])))) for _ in range(chance.randint(1, 3)))
    rule = rule[:6] + (kinds,) + rule[7:]
    program = small_program(chance, rule, chance.randint(2, 5), chance.random() < 0.3)
    questions = questions_of(rule, program)
    shown = questions_shown(rule, program)
    questions = chance.sample(shown or questions, min(len(shown or questions), chance.randint(1, 3)))
    spots = all_spots(rule, program)
    return rule, program, questions, chance.sample(spots, min(len(spots), chance.randint(0, 5)))


class LeastLots(unittest.TestCase):
    def test_the_example(self):
        rule, program = rule_of(kinds=((0,),)), chain_of(write(0), write(1))
        self.assertEqual(least_lots(rule, program, [("ahead", 0, 1)], [(0, 0), (1, 0)]), [((1, 0),)])

    def test_none_is_needed(self):
        questions = [("falls", 1), ("falls", 2), ("acts",)]
        for spots in ([], [(0, 0)], all_spots(RULE, PROGRAM)[:5]):
            self.assertEqual(least_lots(RULE, PROGRAM, questions, spots), [()])

    def test_all_are_not_enough(self):
        self.assertEqual(least_lots(RULE, PROGRAM, [("ahead", 1, 2)], []), [])
        self.assertEqual(least_lots(RULE, PROGRAM, [("ahead", 1, 2)], [(0, 0), (1, 0), (2, 0), (3, 1), (3, 2)]), [])

    def test_each_alone_or_two_together(self):
        program = chain_of(write(0), write(1), put(2))
        questions = [("ahead", 0, 2), ("ahead", 1, 2)]
        spots = [(2, 2), (2, 1), (2, 0)]
        self.assertEqual(least_lots(RULE, program, questions, spots), [((2, 0), (2, 1)), ((2, 2),)])
        self.assertEqual(least_lots(RULE, program, questions[:1], spots), [((2, 0),), ((2, 2),)])
        self.assertEqual(
            least_lots(RULE, program, questions, [(2, 1), (1, 0), (2, 0), (1, 1), (2, 2)]),
            [((1, 0), (2, 1)), ((2, 0), (2, 1)), ((2, 2),)],
        )

    def test_the_spots_stand_in_any_order(self):
        program = chain_of(write(0), write(1), put(2))
        spots = [(1, 0), (2, 0), (2, 1), (2, 2)]
        for order in itertools.permutations(spots):
            self.assertEqual(
                least_lots(RULE, program, [("ahead", 0, 2), ("ahead", 1, 2)], list(order)),
                [((1, 0), (2, 1)), ((2, 0), (2, 1)), ((2, 2),)],
            )

    def test_a_spot_whose_fence_stands_there_is_not_needed(self):
        self.assertEqual(least_lots(RULE, PROGRAM, [("ahead", 0, 2)], [(2, 0)]), [()])
        self.assertEqual(least_lots(RULE, PROGRAM, [("falls", 0)], [(2, 0), (3, 0)]), [()])

    def test_from_one_question_to_three(self):
        question = ("falls", 0)
        for many in (1, 2, 3):
            self.assertEqual(least_lots(RULE, PROGRAM, [question] * many, []), [()])
        for questions in ([], [question] * 4, [question] * 9):
            for function, last in ((least_lots, []), (runs_against, ())):
                with self.assertRaises(BadQuestion):
                    function(RULE, PROGRAM, questions, last)

    def test_bad_questions(self):
        good = ("falls", 0)
        bad = [
            ("falls", 3), ("elder", 0), ("ahead", 0, 3), ("ahead", 0, 4), ("acts", 0), ["falls", 0], ("falls", True),
            None, "acts",
        ]
        lists = [part for thing in bad + OTHER_THINGS for part in ([thing], [good, thing], [thing, good, good])]
        lists += [(good,), good, {good: 0}, {good}, None, "falls", 0, True, Strange(), iter([good])]
        for questions in lists:
            with self.subTest(questions=repr(questions)[:80]):
                for function, last in ((least_lots, []), (runs_against, ())):
                    with self.assertRaises(BadQuestion):
                        function(RULE, PROGRAM, questions, last)

    def test_bad_spots(self):
        lists = [part for thing in NO_SPOTS for part in ([thing], [(0, 0), thing], [(0, 0)] * 5 + [thing])]
        lists += [[(0, 0), (0, 0)], [(0, 0), (1, 0), (0, 0)], [(0, 0)] * 6]
        lists += [(), ((0, 0),), {(0, 0)}, {(0, 0): 0}, None, 0, "", Strange(), iter([])]
        lists += [thing for thing in OTHER_THINGS if not (type(thing) is list and not thing)]
        for spots in lists:
            with self.subTest(spots=repr(spots)[:80]), self.assertRaises(BadSpot):
                least_lots(RULE, PROGRAM, [("falls", 0)], spots)

    def test_more_than_five(self):
        spots = all_spots(RULE, PROGRAM)
        self.assertEqual(least_lots(RULE, PROGRAM, [("falls", 0)], spots[:5]), [()])
        for many in (6, 7, 12):
            with self.assertRaises(TooMany):
                least_lots(RULE, PROGRAM, [("falls", 0)], spots[:many])
        with self.assertRaises(BadSpot):
            least_lots(RULE, PROGRAM, [("falls", 0)], spots[:5] + spots[:1])
        with self.assertRaises(BadSpot):
            least_lots(RULE, PROGRAM, [("falls", 0)], spots[:6] + [(9, 9)])

    def test_against_the_definition(self):
        chance = random.Random(2)
        sizes = set()
        for _ in range(250):
            rule, program, questions, spots = some_fences(chance)
            with self.subTest(rule=rule, program=program, questions=questions, spots=spots):
                found = least_lots(rule, program, questions, spots)
                self.assertEqual(found, least_by_definition(rule, program, questions, spots))
                sizes |= {len(found)} | {("lot", len(lot)) for lot in found}
        self.assertLessEqual({0, 1, 2, ("lot", 0), ("lot", 1), ("lot", 2)}, sizes)


class RunsAgainst(unittest.TestCase):
    def check(self, rule, program, questions, lot):
        """What is told for each spot: the first question that can be shown without it, with a run."""
        told = runs_against(rule, program, questions, lot)
        self.assertEqual((type(told), len(told)), (list, len(lot)))
        for spot, entry in zip(lot, told):
            others = tuple(other for other in lot if other != spot)
            shown = can_show(rule, program, questions, others)
            if entry is None:
                self.assertEqual(shown, [])
                continue
            self.assertEqual((type(entry), len(entry)), (tuple, 2))
            question, run = entry
            self.assertEqual(question, shown[0])
            self.assertIs(type(run), list)
            fenced = with_fences(rule, program, others)
            state_after(rule, fenced, run)
            self.assertTrue(shows(rule, fenced, question, run))
            self.assertIn(spot, broken_spots(rule, fenced, run))
        return [entry and entry[0] for entry in told]

    def test_each_spot_is_needed_or_not(self):
        program = chain_of(write(0), write(1), put(2))
        questions = [("ahead", 0, 2), ("ahead", 1, 2)]
        self.assertEqual(self.check(RULE, program, questions, ((2, 2),)), [("ahead", 0, 2)])
        self.assertEqual(self.check(RULE, program, questions[::-1], ((2, 2),)), [("ahead", 1, 2)])
        self.assertEqual(self.check(RULE, program, questions, ((2, 0), (2, 1))), questions)
        self.assertEqual(self.check(RULE, program, questions, ((2, 0), (2, 1), (2, 2))), [None] * 3)
        self.assertEqual(self.check(RULE, program, questions, ((0, 0), (1, 1), (2, 2))), [None, None, ("ahead", 0, 2)])
        self.assertEqual(self.check(RULE, program, questions, tuple(all_spots(RULE, program))), [None] * 9)

    def test_a_lot_without_spots(self):
        self.assertEqual(runs_against(RULE, PROGRAM, [("falls", 0)], ()), [])

    def test_not_enough(self):
        program = chain_of(write(0), write(1), put(2))
        questions = [("ahead", 0, 2), ("ahead", 1, 2)]
        for lot in ((), ((2, 0),), ((2, 1),), ((0, 0), (0, 1), (0, 2), (1, 1))):
            with self.assertRaises(NotEnough):
                runs_against(RULE, program, questions, lot)
            with self.assertRaises(NotEnough):
                runs_against(RULE, program, [("falls", 0)] + questions, lot)

    def test_of_some_programs(self):
        chance = random.Random(3)
        counts = {"not enough": 0, "none": 0, "run": 0}
        for _ in range(500):
            rule, program, questions, _ = some_fences(chance)
            spots = all_spots(rule, program)
            lot = tuple(sorted(chance.sample(spots, chance.randint(0, len(spots)))))
            with self.subTest(rule=rule, program=program, questions=questions, lot=lot):
                if can_show(rule, program, questions, lot):
                    with self.assertRaises(NotEnough):
                        runs_against(rule, program, questions, lot)
                    counts["not enough"] += 1
                    continue
                for question in self.check(rule, program, questions, lot):
                    counts["none" if question is None else "run"] += 1
        self.assertGreater(min(counts.values()), 20, counts)


class BrokenSpots(unittest.TestCase):
    def test_rows_done_while_a_line_of_the_kind_is_open(self):
        program = chain_of(write(0), write(1), put(2), PASS)
        for run, spots in (
            ([], []), ([do(1)], []), ([do(1), do(2)], [(1, 0), (1, 2)]), ([do(1), send(0, 0), do(2)], []),
            ([do(1), do(2), do(3)], [(1, 0), (1, 2), (2, 0), (2, 1), (2, 2)]),
            ([do(1), do(2), send(0, 0), do(3)], [(1, 0), (1, 2), (2, 1), (2, 2)]),
            ([do(1), send(0, 0), do(2), send(1, 0), do(3), do(-1)], []),
            ([do(1), send(0, 0), do(2), do(3), do(-1)], [(2, 1), (2, 2), (3, 1), (3, 2)]),
        ):
            told = broken_spots(RULE, program, run)
            self.assertEqual(told, spots)
            self.assertEqual({type(spot) for spot in told} - {tuple}, set())

    def test_without_duplicates(self):
        program = ((write(0), (), (0,)),)
        self.assertEqual(broken_spots(RULE, program, [do(0)] * 5), [(0, 0), (0, 2)])
        self.assertEqual(broken_spots(RULE, program, [do(0), send(0, 0)] * 500), [])

    def test_without_kinds(self):
        self.assertEqual(broken_spots(rule_of(), chain_of(write(0), write(1)), [do(1), do(-1)]), [])

    def test_bad_steps(self):
        for run, place in (([None], 0), ([do(1), do(1)], 1), ([do(1), send(1, 0)], 1), ([do(1), do(2), do(3)], 2)):
            with self.assertRaises(BadStep) as caught:
                broken_spots(RULE, PROGRAM, run)
            self.assertEqual(caught.exception.place, place)

    def test_a_run_is_one_with_a_lot_exactly_if_it_breaks_none_of_it(self):
        chance = random.Random(4)
        both = set()
        for _ in range(300):
            rule, program, _, _ = some_fences(chance)
            model, run = Model(rule, program), []
            for _ in range(chance.randint(1, 12)):
                steps = model.possible()
                if steps:
                    run.append(chance.choice(steps))
                    model.take(run[-1])
            broken = broken_spots(rule, program, run)
            self.assertEqual(broken, sorted(set(broken)))
            for spot in all_spots(rule, program):
                fenced = with_fences(rule, program, (spot,))
                models = models_along(rule, program, run)
                taken = all(step in Model.possible(fence_over(model, fenced)) for model, step in zip(models, run))
                self.assertEqual(taken, spot not in broken)
                both.add(taken)
        self.assertEqual(both, {True, False})


def fence_over(model, program):
    """The model in the same state, with another program."""
    other = model.copy()
    other.program = program
    return other


class Shown(unittest.TestCase):
    def test_pairs(self):
        program = chain_of(write(0), write(1), put(2), put(0))
        self.assertEqual(shown_pairs(RULE, program), [(0, 1), (0, 2), (1, 2), (1, 3)])
        self.assertEqual(shown_pairs(RULE, PROGRAM), [(0, 1), (1, 2), (1, 3)])
        self.assertEqual(shown_pairs(rule_of(lines=3, room=1), program), [(1, 2), (1, 3)])

    def test_pairs_of_loops(self):
        program = ((write(0), (), (1,)), (put(1), (), (0,)))
        self.assertEqual(shown_pairs(rule_of(), program), [(0, 1)])
        program = ((write(0), (), (1,)), (write(1), (), (0,)))
        self.assertEqual(shown_pairs(rule_of(), program), [(0, 1), (1, 0)])

    def test_reads(self):
        program = chain_of(read(0), write(0), read(0), put(0), read(0), read(1))
        self.assertEqual(shown_reads(rule_of(), program), [4])
        self.assertEqual(shown_reads(rule_of(look="past"), program), [2, 4])
        self.assertEqual(shown_reads(rule_of(look="first"), program), [])
        program = chain_of(write(0), put(0), read(0), write(1), read(1))
        for look, rows in (("into", [2]), ("past", [2, 4]), ("first", [2])):
            self.assertEqual(shown_reads(rule_of(look=look), program), rows)

    def test_falls(self):
        program = chain_of(write(0), put(0), write(1), put(2))
        self.assertEqual(shown_falls(RULE, program), [0])
        rule = rule_of(width=2, lines=2, sends="filled")
        self.assertEqual(shown_falls(rule, chain_of(write(0), put(1), write(2), put(2))), [1, 2])

    def test_nothing(self):
        for function in (shown_pairs, shown_reads, shown_falls):
            for program in (chain_of(PASS), chain_of(write(0)), chain_of(read(0)), chain_of(put(0), put(1))):
                self.assertEqual(function(rule_of(), program), [])

    def test_each_is_what_the_answers_say(self):
        chance = random.Random(5)
        shown = 0
        for _ in range(150):
            rule = some_rule(chance)
            program = small_program(chance, rule, chance.randint(2, 8), chance.random() < 0.5)
            questions = questions_shown(rule, program)
            with self.subTest(rule=rule, program=program):
                pairs = sorted(question[1:] for question in questions if question[0] == "ahead")
                self.assertEqual(shown_pairs(rule, program), pairs)
                reads = sorted(question[1] for question in questions if question[0] == "elder")
                self.assertEqual(shown_reads(rule, program), reads)
                falls = sorted(question[1] for question in questions if question[0] == "falls")
                self.assertEqual(shown_falls(rule, program), falls)
                shown += len(questions)
        self.assertGreater(shown, 100)

    def test_of_the_widest_rule_with_eight_rows(self):
        everywhere = tuple(range(8))
        for sends in ("whole", "parts", "filled"):
            rule = rule_of(width=3, lines=3, room=3, sends=sends)
            program = tuple((write(place), (), everywhere) for place in range(8))
            pairs = shown_pairs(rule, program)
            if sends == "parts":
                self.assertEqual(len(pairs), 56)
            else:
                rows = itertools.permutations(range(8), 2)
                self.assertEqual(pairs, [(row, other) for row, other in rows if row // 3 != other // 3])
            self.assertEqual(shown_falls(rule, program), [])
