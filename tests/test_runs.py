"""Points 2 and 12: what is returned for a run, and which runs are none."""

import copy
import unittest

from heldwrites.errors import BadStep
from heldwrites.machine import given_by, possible_steps, state_after, told_by
from samples import OTHER_THINGS, PASS, Strange, chain_of, do, put, read, rule_of, send, write

FUNCTIONS = (possible_steps, state_after, told_by, given_by)


class PossibleSteps(unittest.TestCase):
    def test_do_before_send_each_ascending(self):
        rule = rule_of(width=2, lines=3, room=3, sends="parts")
        program = ((write(4), (), (1,)), (write(1), (), (2,)), (write(0), (), (3,)), (PASS, (), (0, 2, 3)))
        self.assertEqual(possible_steps(rule, program, [do(1), do(2), do(3)]), [
            do(0), do(2), do(3), send(0, 0), send(0, 0, 1), send(0, 1), send(2, 0),
        ])

    def test_the_steps_are_plain_tuples_and_each_can_be_taken(self):
        rule = rule_of(width=2, sends="parts")
        program = chain_of(write(0), write(1), write(2))
        steps = possible_steps(rule, program, [do(1), do(2)])
        self.assertEqual(steps, sorted(steps))
        for step in steps:
            self.assertIs(type(step), tuple)
            state_after(rule, program, [do(1), do(2), step])

    def test_none_is_left_when_all_is_done_and_sent(self):
        self.assertEqual(possible_steps(rule_of(), chain_of(PASS), [do(-1)]), [])


class Told(unittest.TestCase):
    def test_each_read_of_the_run_in_order(self):
        program = (
            (read(1), (), (1,)), (write(1), (), (2,)), (read(1), (), (0, 3)), (put(0), (), (4,)), (read(0), (), ()),
        )
        run = [do(1), do(2), do(0), do(1), send(1, 0), do(2), do(3), do(4), do(-1)]
        told = told_by(rule_of(), program, run)
        self.assertEqual(told, [(0, 1, 0), (2, 1, 1), (0, 1, 1), (2, 1, 2), (4, 0, 3)])
        self.assertIs(type(told), list)
        self.assertEqual({type(entry) for entry in told}, {tuple})
        self.assertEqual(told_by(rule_of(), program, run[:2]), [(0, 1, 0)])

    def test_no_read_no_entry(self):
        for program, run in ((chain_of(read(0)), []), (chain_of(write(0), put(0), PASS), [do(1), send(0, 0), do(2)])):
            self.assertEqual(told_by(rule_of(), program, run), [])


class Given(unittest.TestCase):
    def test_each_stamp_in_order(self):
        program = ((write(1), (), (1,)), (read(1), (), (2,)), (put(0), (), (0, 3)), (PASS, (), ()))
        run = [do(1), do(2), do(0), do(1), send(1, 0), do(2), do(3), do(-1)]
        given = given_by(rule_of(), program, run)
        self.assertEqual(given, [(0, 1), (2, 0), (0, 1), (2, 0)])
        self.assertEqual({type(entry) for entry in given}, {tuple})
        self.assertEqual(state_after(rule_of(), program, run)[1], len(given))

    def test_none_given_no_entry(self):
        for program, run in ((chain_of(write(0)), []), (chain_of(read(0), PASS), [do(1), do(-1)])):
            self.assertEqual(given_by(rule_of(), program, run), [])


class BadSteps(unittest.TestCase):
    rule = rule_of(width=2, lines=2, room=1, sends="parts", kinds=((0,),))
    program = ((write(0), (), (1,)), (write(1), (), (0, 2)), (PASS, (0,), ()))

    def assert_bad(self, run, place, rule=None, program=None):
        for function in FUNCTIONS:
            with self.subTest(function=function.__name__, run=repr(run)[:100]):
                with self.assertRaises(BadStep) as caught:
                    function(rule or self.rule, program or self.program, run)
                self.assertEqual(caught.exception.place, place)
                self.assertIs(type(caught.exception.place), int)

    def test_steps_that_cannot_be_taken(self):
        for step in (
            do(-1), do(0), do(2), do(3), do(-2), do(10 ** 59), send(0, 0), send(1, 0), send(2, 0), send(-1, 0), send(0),
        ):
            self.assert_bad([step], 0)

    def test_sends_that_cannot_be_taken(self):
        run = [do(1), do(2)]
        for step in (
            send(0), send(0, 1, 0), send(0, 0, 0), send(0, 2), send(0, -1), send(0, 0, 2), send(1, 0), send(1),
            send(-1, 0), send(2, 0), send(10 ** 59, 0), send(0, 0, 1, 2),
        ):
            self.assert_bad(run + [step], 2)
        for step in (send(0, 0), send(0, 1), send(0, 0, 1)):
            self.assertEqual(state_after(self.rule, self.program, run + [step])[0], 2)

    def test_whole_and_filled_sends_take_no_fewer_cells(self):
        program = chain_of(write(0), write(1))
        for sends, run, good in (("whole", [do(1), do(-1)], send(0, 0, 1)), ("filled", [do(1)], send(0, 0, 1))):
            rule = rule_of(width=2, sends=sends)
            state_after(rule, program, run + [good])
            for step in (send(0, 0), send(0, 1), send(0)):
                self.assert_bad(run + [step], len(run), rule, program)
        self.assert_bad([do(1), send(0, 0, 1)], 1, rule_of(width=2), program)

    def test_rows_that_have_to_wait(self):
        self.assert_bad([do(1), do(2), do(-1)], 2)
        self.assert_bad([do(1)] * 2, 1, rule_of(eager=True), ((write(0), (), (1,)), (PASS, (), (1,))))
        self.assert_bad([do(1), do(-1)], 1, rule_of(look="first"), chain_of(write(0), read(0)))
        self.assert_bad([do(1), do(-1)], 1, rule_of(room=1), chain_of(write(0), write(1)))

    def test_a_program_that_has_stopped(self):
        for row in (-1, 0, 1):
            self.assert_bad([do(-1), do(row)], 1, rule_of(), ((PASS, (), ()),))

    def test_minus_one_only_where_there_are_no_nexts(self):
        self.assert_bad([do(-1)], 0, rule_of(), ((PASS, (), (0,)),))
        self.assert_bad([do(0)], 0, rule_of(), ((PASS, (), ()),))

    def test_objects_of_any_other_form(self):
        run = [do(1), do(2)]
        things = OTHER_THINGS + [
            ("do",), ("do", 1, 1), ("do", None), ("do", "1"), ("do", (1,)), ("do", [1]), ["do", 1], ("send",),
            ("send", 0), ("send", 0, (0,), 0), ("send", 0, [0]), ("send", 0, 0), ("send", 0, None), ("send", 0, "0"),
            ("send", 0, (0, "1")), ("send", 0, ((0,),)), ("send", 0, (None,)), ("send", (0,), (0,)),
            ("send", "0", (0,)), ["send", 0, (0,)], ("Do", 1), ("sends", 0, (0,)), (b"do", 1), (b"send", 0, (0,)),
            (None, 1), (0, 1),
            ("send", 1), ("do", 0, (0,)), ("send", 0, {0: 0}), ("send", 0, range(1)), (("do", 1),), [("do", 1)], "do 1",
            (Strange(), 1), (Strange(), 0, (0,)), ("do", Strange()), ("send", Strange(), (0,)), ("send", 0, Strange()),
            ("send", 0, (Strange(),)),
        ]
        for thing in things:
            self.assert_bad([thing], 0)
            self.assert_bad(run + [thing], 2)

    def test_a_bool_stands_for_no_integer(self):
        self.assert_bad([("do", True)], 0)
        self.assert_bad([do(1), ("do", 2), ("do", False)], 2)
        self.assert_bad([("do", False)], 0, rule_of(), ((PASS, (), (0,)),))
        run = [do(1), do(2)]
        for step in (
            ("send", False, (0,)), ("send", 0, (False,)), ("send", 0, (True,)), ("send", 0, (0, True)),
            ("send", 0, (False, 1)), ("send", False, (0, 1)),
        ):
            self.assert_bad(run + [step], 2)

    def test_the_first_such_entry(self):
        self.assert_bad([do(1), None, do(2), None], 1)
        self.assert_bad([None, None], 0)
        self.assert_bad([do(1), do(2), send(0, 0), send(0, 0), send(1, 0)], 3)

    def test_entries_behind_good_ones_of_a_long_run(self):
        self.assert_bad([do(0)] * 999 + [do(1)], 999, rule_of(), ((write(0), (), (0,)),))

    def test_a_run_that_is_no_list(self):
        for run in ((), (do(1),), None, 0, "", {}, True):
            self.assert_bad(run, 0)


class LongRuns(unittest.TestCase):
    def test_one_thousand_steps(self):
        rule = rule_of(width=3, lines=3, room=3, sends="parts", acting=(0, 8))
        program = ((write(0), (), (1,)), (put(8), (), (2,)), (read(0), (), (0,)))
        run = [do(1), send(0, 0), do(2), do(0)] * 250
        state = state_after(rule, program, run)
        self.assertEqual(state[:4], (0, 500, (499, 0, 0, 0, 0, 0, 0, 0, 500), ()))
        self.assertEqual(state[4], tuple(range(1, 501)))
        self.assertEqual(told_by(rule, program, run), [(2, 0, 2 * turn + 1) for turn in range(250)])
        self.assertEqual(given_by(rule, program, run), [(0, 0), (1, 8)] * 250)
        self.assertEqual(possible_steps(rule, program, run), [do(1)])

    def test_somewhat_more_is_no_error(self):
        program = ((PASS, (), (0,)),)
        self.assertEqual(state_after(rule_of(), program, [do(0)] * 1200), (0, 0, (0, 0), (), ()))


class Calls(unittest.TestCase):
    rule = rule_of(width=2, sends="parts", kinds=((0,),), acting=(0,))
    program = ((write(0), (), (0, 1)), (read(0), (), ()))
    steps = [("do", 0), ("send", 0, (0,)), ("do", 1), ("do", -1)]

    def test_by_name_as_by_position(self):
        for function in FUNCTIONS:
            by_position = function(self.rule, self.program, self.steps)
            self.assertEqual(function(rule=self.rule, program=self.program, run=self.steps), by_position)
            self.assertEqual(function(run=self.steps, rule=self.rule, program=self.program), by_position)
            self.assertEqual(function(self.rule, self.program, run=self.steps), by_position)

    def test_arguments_are_not_changed(self):
        for function in FUNCTIONS:
            for run in (list(self.steps), list(self.steps[:2]), [], [do(0), None, ["do", [1]]]):
                before = copy.deepcopy(run)
                try:
                    function(self.rule, self.program, run)
                except BadStep:
                    pass
                self.assertEqual(run, before)

    def test_no_reference_to_the_run_is_kept(self):
        for function in FUNCTIONS:
            run = list(self.steps)
            first = function(self.rule, self.program, run)
            kept = copy.deepcopy(first)
            run.clear()
            self.assertEqual(first, kept)
            self.assertEqual(function(self.rule, self.program, self.steps), kept)

    def test_returned_lists_are_new(self):
        for function, run in ((possible_steps, self.steps[:1]), (told_by, self.steps), (given_by, self.steps)):
            first = function(self.rule, self.program, run)
            kept = list(first)
            self.assertIs(type(first), list)
            first.append(None)
            first[0] = None
            second = function(self.rule, self.program, run)
            self.assertIsNot(second, first)
            self.assertEqual(second, kept)
            for empty in ([], run):
                self.assertIsNot(function(self.rule, self.program, empty), empty)

    def test_equal_calls_return_equal_results(self):
        for function in FUNCTIONS:
            results = [function(self.rule, self.program, list(self.steps)) for _ in range(3)]
            self.assertEqual(results[0], results[1])
            self.assertEqual(results[0], results[2])
