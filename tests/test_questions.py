"""Points 12 to 17: which objects are questions, and which runs show them."""

import unittest

from heldwrites.answers import answer_holds, answer_to, views_after, views_close
from heldwrites.compared import carried_run
from heldwrites.errors import BadQuestion, BadStep
from heldwrites.fences import least_lots, runs_against
from heldwrites.questions import is_question, run_shows
from samples import OTHER_THINGS, PASS, Strange, chain_of, do, put, read, rule_of, send, write

RULE = rule_of(width=2, lines=2, acting=(0,))
# Rows 0 to 5 write, put, read and pass; rows 0 and 1 have one place.
PROGRAM = chain_of(write(0), put(0), read(0), PASS, write(3), put(1))
BAD_NUMBERS = (-1, -6, 6, 100, 10 ** 59, True, False, None, "0", (0,), [0], b"0", Strange())


class Questions(unittest.TestCase):
    def assert_good(self, thing, rule=RULE, program=PROGRAM):
        with self.subTest(thing=repr(thing)[:80]):
            self.assertIs(is_question(rule, program, thing), True)
            answer_to(rule, program, thing)

    def assert_bad(self, thing, rule=RULE, program=PROGRAM):
        with self.subTest(thing=repr(thing)[:80]):
            self.assertIs(is_question(rule, program, thing), False)
            for call in (
                lambda: run_shows(rule, program, thing, []),
                lambda: answer_to(rule, program, thing),
                lambda: views_after(rule, program, thing, []),
                lambda: views_close(rule, program, thing, []),
                lambda: answer_holds(rule, program, thing, ("never", [])),
                lambda: least_lots(rule, program, [thing], []),
                lambda: runs_against(rule, program, [thing], ()),
                lambda: carried_run(rule, rule, program, thing, []),
            ):
                with self.assertRaises(BadQuestion):
                    call()

    def test_elder_names_a_row_that_reads(self):
        self.assert_good(("elder", 2))
        for row in (0, 1, 3, 4, 5) + BAD_NUMBERS:
            self.assert_bad(("elder", row))

    def test_falls_names_a_place_of_the_rule(self):
        for place in range(4):
            self.assert_good(("falls", place))
        for place in (4,) + BAD_NUMBERS:
            self.assert_bad(("falls", place))
        self.assert_bad(("falls", 3), rule_of(width=1, lines=3), chain_of(PASS))
        self.assert_good(("falls", 8), rule_of(width=3, lines=3), chain_of(PASS))

    def test_ahead_names_two_rows_that_give_stamps_to_unlike_places(self):
        good = [(0, 4), (4, 0), (0, 5), (5, 0), (1, 4), (4, 1), (1, 5), (5, 1), (4, 5), (5, 4)]
        for row in range(6):
            for other in range(6):
                if (row, other) in good:
                    self.assert_good(("ahead", row, other))
                else:
                    self.assert_bad(("ahead", row, other))
        for thing in BAD_NUMBERS:
            self.assert_bad(("ahead", thing, 4))
            self.assert_bad(("ahead", 4, thing))

    def test_unlike_places_may_stand_in_one_line(self):
        self.assert_good(("ahead", 0, 1), rule_of(width=2, lines=1), chain_of(write(0), write(1)))
        self.assert_bad(("ahead", 0, 1), rule_of(width=2, lines=1), chain_of(write(1), write(1)))

    def test_acts_has_no_number(self):
        self.assert_good(("acts",))
        self.assert_good(("acts",), rule_of(), chain_of(PASS))
        for rest in BAD_NUMBERS + (0, 1, ()):
            self.assert_bad(("acts", rest))

    def test_true_and_false_stand_for_no_number(self):
        rule, program = rule_of(width=2), chain_of(read(0), read(1))
        for thing in (False, True):
            self.assert_bad(("elder", thing), rule, program)
            self.assert_bad(("falls", thing), rule, program)
        program = chain_of(write(0), write(1))
        for row, other in ((False, 1), (0, True), (False, True), (True, 0), (1, False)):
            self.assert_bad(("ahead", row, other), rule, program)

    def test_rows_of_another_program(self):
        self.assert_bad(("elder", 2), RULE, chain_of(read(0), read(0)))
        self.assert_good(("elder", 7), rule_of(), chain_of(*[read(0)] * 8))

    def test_other_lengths(self):
        for thing in (
            ("elder",), ("elder", 2, 2), ("elder", 2, None), ("falls",), ("falls", 0, 0), ("falls", 0, 4),
            ("ahead",), ("ahead", 0), ("ahead", 0, 4, 0), ("ahead", 0, 4, 4), ("acts", "acts"), ("ahead", (0, 4)),
            ("elder", (2,)), ("elder", 2, 2, 2), ("falls", 0, 0, 0), ("falls", 0, 1, 2, 3), ("ahead", 0, 4, 0, 4),
            ("elder", 2, None, None, None, None), ("acts", 0, 0, 0),
        ):
            self.assert_bad(thing)

    def test_other_words(self):
        words = ("", "Elder", "elders", "fall", "act", "write", "read", b"elder", None, 0, True, ("elder",), Strange())
        for word in words:
            self.assert_bad((word,))
            self.assert_bad((word, 2))
            self.assert_bad((word, 0, 4))
        self.assert_bad(("acts", 0, 4))
        self.assert_bad(("elder", 0, 4))
        self.assert_bad(("falls", 0, 4))
        self.assert_bad(("ahead", 2))

    def test_lists_in_the_place_of_tuples(self):
        for thing in (["elder", 2], ["falls", 0], ["ahead", 0, 4], ["acts"], "acts", "elder", {"acts": 0}):
            self.assert_bad(thing)

    def test_any_other_object(self):
        for thing in OTHER_THINGS:
            self.assert_bad(thing)


class Shown(unittest.TestCase):
    """Each test tells the steps of a run, and from which number of them on the run shows the question."""

    def assert_shown_from(self, rule, program, question, run, first):
        for many in range(len(run) + 1):
            with self.subTest(question=question, run=run[:many]):
                self.assertIs(run_shows(rule, program, question, run[:many]), many >= first)

    def assert_not_shown(self, rule, program, question, run):
        self.assert_shown_from(rule, program, question, run, len(run) + 1)

    def test_elder_by_a_read_past_the_line(self):
        program = chain_of(write(0), read(0), PASS)
        run = [do(1), do(2), send(0, 0), do(-1)]
        self.assert_shown_from(rule_of(look="past"), program, ("elder", 1), run, 2)
        self.assert_not_shown(rule_of(look="into"), program, ("elder", 1), run)

    def test_elder_when_the_last_stamp_is_told(self):
        program = chain_of(write(0), read(0))
        for look in ("into", "past", "first"):
            self.assert_not_shown(rule_of(look=look), program, ("elder", 1), [do(1), send(0, 0), do(-1)])

    def test_elder_before_any_stamp(self):
        self.assert_not_shown(rule_of(look="past"), chain_of(read(0)), ("elder", 0), [do(-1)])
        program = chain_of(write(1), read(0))
        self.assert_not_shown(rule_of(width=2, look="past"), program, ("elder", 1), [do(1), do(-1)])

    def test_elder_behind_a_put_while_the_line_is_open(self):
        program = chain_of(write(0), put(0), read(0))
        run = [do(1), do(2), do(-1)]
        self.assert_shown_from(rule_of(look="into"), program, ("elder", 2), run, 3)
        self.assert_not_shown(rule_of(look="past"), program, ("elder", 2), run)
        run = [do(1), do(2), send(0, 0), do(-1)]
        for look in ("into", "past", "first"):
            self.assert_shown_from(rule_of(look=look), program, ("elder", 2), run, 4)

    def test_elder_of_an_old_stamp_that_is_not_zero(self):
        program = chain_of(write(0), write(0), read(0))
        run = [do(1), send(0, 0), do(2), do(-1)]
        self.assert_shown_from(rule_of(look="past"), program, ("elder", 2), run, 4)

    def test_elder_of_a_filled_cell(self):
        program = chain_of(write(1), put(0), read(0))
        run = [do(1), do(2), do(-1)]
        self.assert_shown_from(rule_of(width=2, sends="filled"), program, ("elder", 2), run, 3)
        self.assert_not_shown(rule_of(width=2, sends="whole"), program, ("elder", 2), run)

    def test_elder_asks_about_one_row_alone(self):
        program = chain_of(write(0), read(0), read(0))
        rule = rule_of(look="past")
        self.assert_shown_from(rule, program, ("elder", 2), [do(1), do(2), do(-1)], 3)
        self.assert_not_shown(rule, program, ("elder", 2), [do(1), do(2), send(0, 0), do(-1)])
        self.assert_shown_from(rule, program, ("elder", 1), [do(1), do(2), send(0, 0), do(-1)], 2)

    def test_elder_counts_the_stamps_before_the_read_alone(self):
        program = chain_of(read(0), write(0))
        self.assert_not_shown(rule_of(look="past"), program, ("elder", 0), [do(1), do(-1)])
        program = ((read(0), (), (1,)), (write(0), (), (0,)))
        self.assert_shown_from(rule_of(look="past"), program, ("elder", 0), [do(1), do(0), do(1), do(0)], 3)

    def test_falls_by_a_send_behind_a_put(self):
        program = chain_of(write(0), put(0))
        self.assert_shown_from(rule_of(), program, ("falls", 0), [do(1), do(-1), send(0, 0)], 3)
        self.assert_not_shown(rule_of(), program, ("falls", 0), [do(1), send(0, 0), do(-1)])
        self.assert_not_shown(rule_of(), program, ("falls", 1), [do(1), do(-1), send(0, 0)])

    def test_falls_stays_shown(self):
        program = chain_of(write(0), put(0), put(0))
        self.assert_shown_from(rule_of(), program, ("falls", 0), [do(1), do(2), send(0, 0), do(-1)], 3)

    def test_an_equal_stamp_does_not_fall(self):
        program = chain_of(write(0), write(1))
        rule = rule_of(width=2, sends="filled")
        run = [do(1), send(0, 0, 1), do(-1), send(0, 0, 1)]
        self.assert_not_shown(rule, program, ("falls", 0), run)
        self.assert_not_shown(rule, program, ("falls", 1), run)

    def test_falls_by_a_filled_cell(self):
        program = chain_of(put(1), write(0), put(1))
        rule = rule_of(width=2, sends="filled")
        run = [do(1), do(2), do(-1), send(0, 0, 1)]
        self.assert_shown_from(rule, program, ("falls", 1), run, 4)
        self.assert_not_shown(rule_of(width=2), program, ("falls", 1), run[:3] + [send(0, 0)])

    def test_ahead_while_the_first_is_held(self):
        program = chain_of(write(0), write(1))
        run = [do(1), do(-1), send(1, 0), send(0, 0)]
        self.assert_shown_from(rule_of(), program, ("ahead", 0, 1), run, 3)
        self.assert_not_shown(rule_of(), program, ("ahead", 1, 0), run)
        self.assert_not_shown(rule_of(), program, ("ahead", 0, 1), [do(1), do(-1), send(0, 0), send(1, 0)])

    def test_ahead_by_a_put(self):
        program = chain_of(write(0), put(1))
        self.assert_shown_from(rule_of(), program, ("ahead", 0, 1), [do(1), do(-1)], 2)
        self.assert_not_shown(rule_of(), program, ("ahead", 0, 1), [do(1), send(0, 0), do(-1)])

    def test_ahead_behind_puts_when_the_first_place_falls(self):
        program = chain_of(write(0), put(0), put(1))
        self.assert_shown_from(rule_of(), program, ("ahead", 1, 2), [do(1), do(2), do(-1), send(0, 0)], 4)
        self.assert_shown_from(rule_of(), program, ("ahead", 0, 2), [do(1), send(0, 0), do(2), do(-1)], 5)

    def test_ahead_needs_a_stamp_of_the_very_rows(self):
        program = chain_of(write(0), put(1), put(1), write(0))
        run = [do(1), do(2), send(0, 0), do(3), do(-1)]
        self.assert_shown_from(rule_of(), program, ("ahead", 0, 1), run, 2)
        self.assert_not_shown(rule_of(), program, ("ahead", 0, 2), run)
        self.assert_not_shown(rule_of(), program, ("ahead", 3, 1), run)
        self.assert_not_shown(rule_of(), program, ("ahead", 3, 2), run)

    def test_a_stamp_that_stands_behind_the_second_one_does_not_count(self):
        program = chain_of(put(1), write(0))
        self.assert_not_shown(rule_of(), program, ("ahead", 1, 0), [do(1), do(-1)])
        # By a loop the row's second stamp stands behind, the first one was sent.
        program = ((write(0), (), (1,)), (put(1), (), (0,)))
        run = [do(1), send(0, 0), do(0), do(1), send(0, 0), do(0)]
        self.assert_not_shown(rule_of(), program, ("ahead", 0, 1), run)
        self.assert_shown_from(rule_of(), program, ("ahead", 0, 1), [do(1), send(0, 0), do(0), do(1), do(0)], 5)

    def test_ahead_by_any_of_the_stamps_that_the_row_gave(self):
        program = ((write(0), (), (0, 1)), (put(1), (), ()))
        self.assert_shown_from(rule_of(), program, ("ahead", 0, 1), [do(0), send(0, 0), do(1), do(-1)], 4)

    def test_a_greater_stamp_of_another_row_is_no_less(self):
        program = chain_of(write(0), put(0), put(1))
        self.assert_not_shown(rule_of(), program, ("ahead", 0, 2), [do(1), do(2), do(-1)])

    def test_acts_out_of_order(self):
        program = chain_of(write(0), put(1))
        rule = rule_of(acting=(0, 1))
        self.assert_shown_from(rule, program, ("acts",), [do(1), do(-1), send(0, 0)], 2)
        self.assert_not_shown(rule, program, ("acts",), [do(1), send(0, 0), do(-1)])

    def test_acts_at_acting_places_alone(self):
        program = chain_of(write(0), put(1))
        for acting in ((), (0,), (1,)):
            self.assert_not_shown(rule_of(acting=acting), program, ("acts",), [do(1), do(-1), send(0, 0)])

    def test_a_stamp_that_never_acts(self):
        program = chain_of(write(0), write(0))
        rule = rule_of(acting=(0,))
        self.assert_shown_from(rule, program, ("acts",), [do(1), do(-1), send(0, 0)], 3)
        self.assert_not_shown(rule, program, ("acts",), [do(1), send(0, 0), do(-1), send(0, 0)])

    def test_a_beginning_of_the_list_is_enough(self):
        program = chain_of(write(0), write(1), write(2))
        rule = rule_of(lines=3, room=3, acting=(0, 2))
        self.assert_not_shown(rule, program, ("acts",), [do(1), do(2), do(-1), send(0, 0), send(1, 0)])
        self.assert_shown_from(rule, program, ("acts",), [do(1), do(2), do(-1), send(1, 0), send(2, 0)], 5)

    def test_acts_of_one_send_stand_in_the_order_of_the_places(self):
        rule = rule_of(width=2, lines=1, acting=(0, 1))
        run = [do(1), do(-1), send(0, 0, 1)]
        self.assert_not_shown(rule, chain_of(write(0), write(1)), ("acts",), run)
        self.assert_shown_from(rule, chain_of(write(1), write(0)), ("acts",), run, 3)

    def test_a_filled_cell_acts_again(self):
        rule = rule_of(width=2, lines=1, sends="filled", acting=(0,))
        program = chain_of(write(0), write(1))
        run = [do(1), send(0, 0, 1), do(-1), send(0, 0, 1)]
        self.assert_shown_from(rule, program, ("acts",), run, 4)
        self.assert_shown_from(rule, chain_of(write(1)), ("acts",), [do(-1), send(0, 0, 1)], 2)

    def test_the_example(self):
        rule = rule_of(kinds=((0,),))
        program = chain_of(write(0), write(1))
        self.assert_shown_from(rule, program, ("ahead", 0, 1), [do(1), do(-1), send(1, 0)], 3)


class Runs(unittest.TestCase):
    def test_bad_steps(self):
        program = chain_of(write(0), read(0), put(0))
        run = [do(1), send(0, 0), do(2)]
        for question in (("elder", 1), ("falls", 0), ("acts",)):
            for place in range(3):
                for thing in OTHER_THINGS + [do(-1), send(0, 0, 1), send(1, 0), ("do", True), ["do", 1]]:
                    with self.assertRaises(BadStep) as caught:
                        run_shows(rule_of(acting=(0,)), program, question, run[:place] + [thing])
                    self.assertEqual(caught.exception.place, place)

    def test_bad_steps_behind_the_step_that_shows(self):
        program = chain_of(write(0), put(0), PASS)
        with self.assertRaises(BadStep) as caught:
            run_shows(rule_of(), program, ("falls", 0), [do(1), do(2), send(0, 0), None, None])
        self.assertEqual(caught.exception.place, 3)

    def test_a_thousand_steps(self):
        program = ((write(0), (), (0, 1)), (put(1), (), (0, 2)), (read(0), (), (0,)), (put(0), (), ()))
        rule = rule_of(look="past", acting=(0, 1))
        calm = [do(1), send(0, 0), do(2), do(0)] * 249
        for question in (("elder", 2), ("falls", 0), ("ahead", 0, 1), ("acts",)):
            self.assertIs(run_shows(rule, program, question, calm + [do(1), send(0, 0), do(2), do(0)]), False)
        for question in (("elder", 2), ("ahead", 0, 1), ("acts",)):
            self.assertIs(run_shows(rule, program, question, calm + [do(1), do(2), do(0), send(0, 0)]), True)
        self.assertIs(run_shows(rule, program, ("falls", 0), calm + [do(1), do(2), do(0), send(0, 0)]), False)
        loop = ((write(0), (), (1,)), (put(0), (), (0,)))
        self.assertIs(run_shows(rule_of(), loop, ("falls", 0), [do(1), send(0, 0), do(0)] * 333 + [do(1)]), False)
        steps = [do(1), send(0, 0), do(0)] * 332 + [do(1), do(0), send(0, 0)]
        self.assertIs(run_shows(rule_of(), loop, ("falls", 0), steps), True)
