"""Points 20 to 25: what views tell, and which lists of them close."""

import unittest

from heldwrites.answers import answer_to, views_after, views_close
from heldwrites.errors import BadQuestion, BadStep
from histories import questions_of
from samples import OTHER_THINGS, PASS, Strange, chain_of, do, put, read, rule_of, send, write


class Views(unittest.TestCase):
    def assert_views(self, rule, program, question, run, *views):
        with self.subTest(question=question, run=run):
            told = views_after(rule, program, question, run)
            self.assertEqual(told, list(views))
            self.assertIs(type(told), list)
            for view in told:
                self.assertEqual([type(part) for part in view], [int, int, tuple, tuple, tuple])


class Tracked(Views):
    """The lines that a view tells of."""

    def test_at_the_beginning(self):
        rule = rule_of(width=2, lines=3, acting=(0, 5))
        program = chain_of(read(3), write(4), put(0), put(1))
        self.assert_views(rule, program, ("elder", 0), [], (0, 0, ((),), (1,), ()))
        self.assert_views(rule, program, ("falls", 5), [], (0, 0, ((),), (), ()))
        self.assert_views(rule, program, ("ahead", 1, 2), [], (0, 0, ((), ()), (0, 0), ()))
        self.assert_views(rule, program, ("ahead", 2, 3), [], (0, 0, ((),), (0, 0), ()))
        self.assert_views(rule, program, ("acts",), [], (0, 0, ((), ()), (), ()))
        self.assert_views(rule_of(width=2, lines=3, acting=(2, 3)), program, ("acts",), [], (0, 0, ((),), (), ()))
        self.assert_views(rule_of(width=2, lines=3, acting=(4,)), program, ("acts",), [], (0, 0, ((),), (), ()))
        self.assert_views(rule_of(width=2, lines=3), program, ("acts",), [], (0, 0, (), (), ()))

    def test_other_lines_are_not_told(self):
        rule = rule_of(lines=3, room=3, acting=(2,))
        program = chain_of(write(0), write(1), write(2), put(0))
        run = [do(1), do(2), do(3)]
        self.assert_views(rule, program, ("falls", 1), run, (3, 0, ((3,),), (), ()))
        self.assert_views(rule, program, ("acts",), run, (3, 0, ((2,),), (), (2,)))
        self.assert_views(rule, program, ("falls", 1), run + [send(0, 0), send(2, 0)], (3, 0, ((3,),), (), ()))
        self.assert_views(rule, program, ("falls", 1), run + [send(1, 0)], (3, 0, ((),), (), ()))

    def test_lines_stand_by_number_and_memory_by_the_rows(self):
        program = chain_of(write(2), write(0), PASS)
        rule = rule_of(lines=3, room=3)
        run = [do(1), send(2, 0), do(2)]
        self.assert_views(
            rule, program, ("ahead", 0, 1), run,
            (2, 0, ((2,), ()), (0, 0), ()), (2, 1, ((2,), ()), (1, 0), ()), (2, 2, ((3,), ()), (1, 0), ()),
        )

    def test_the_row_is_that_of_the_state(self):
        program = ((PASS, (), (0, 1)), (PASS, (), ()))
        for run, row in (([], 0), ([do(0)], 0), ([do(1)], 1), ([do(1), do(-1)], -1)):
            self.assert_views(rule_of(), program, ("falls", 0), run, (row, 0, ((),), (), ()))


class Codes(Views):
    """The codes of cells, each under each way of sending."""

    def test_marked_and_empty(self):
        program = chain_of(write(1), write(0), PASS)
        for sends in ("whole", "parts"):
            rule = rule_of(width=3, sends=sends)
            self.assert_views(rule, program, ("falls", 1), [do(1)], (1, 0, ((-1, 3, -1),), (), ()))
            self.assert_views(rule, program, ("falls", 0), [do(1)], (1, 0, ((-1, 2, -1),), (), ()))
            self.assert_views(rule, program, ("falls", 0), [do(1), do(2)], (2, 0, ((3, 2, -1),), (), ()))
            self.assert_views(rule, program, ("falls", 3), [do(1), do(2)], (2, 0, ((),), (), ()))
        rule = rule_of(width=3, sends="parts")
        self.assert_views(rule, program, ("falls", 0), [do(1), do(2), send(0, 1)], (2, 0, ((3, -1, -1),), (), ()))

    def test_filled_cells(self):
        program = chain_of(write(1), put(0), write(0), PASS)
        rule = rule_of(width=3, sends="filled")
        self.assert_views(rule, program, ("falls", 1), [do(1)], (1, 0, ((0, 3, 0),), (), ()))
        self.assert_views(rule, program, ("falls", 0), [do(1)], (1, 0, ((1, 2, 0),), (), ()))
        self.assert_views(rule, program, ("falls", 0), [do(1), do(2)], (2, 0, ((0, 2, 0),), (), ()))
        self.assert_views(rule, program, ("falls", 0), [do(1), do(2), do(3)], (3, 0, ((3, 2, 0),), (), ()))
        self.assert_views(rule, program, ("falls", 2), [do(1), do(2), do(3)], (3, 0, ((2, 2, 1),), (), ()))

    def test_an_elder_filled_cell(self):
        program = chain_of(write(1), put(0), read(0))
        rule = rule_of(width=2, sends="filled")
        self.assert_views(rule, program, ("elder", 2), [do(1)], (1, 0, ((1, 2),), (1,), ()))
        self.assert_views(rule, program, ("elder", 2), [do(1), do(2)], (2, 0, ((0, 2),), (1,), ()))

    def test_a_put_makes_a_held_stamp_old(self):
        program = chain_of(write(0), put(0), write(0), read(0))
        run = [do(1), do(2)]
        self.assert_views(rule_of(), program, ("falls", 0), run, (2, 0, ((2,),), (), ()))
        self.assert_views(rule_of(), program, ("elder", 3), run, (2, 0, ((2,),), (1,), ()))
        run = [do(1), do(2), do(3)]
        self.assert_views(rule_of(), program, ("falls", 0), run, (3, 0, ((3,),), (), ()))
        self.assert_views(rule_of(), program, ("elder", 3), run, (3, 0, ((3,),), (0,), ()))


class Recent(Views):
    """What memory and stage tell."""

    def test_elder(self):
        program = chain_of(write(0), put(1), write(0), read(0))
        rule = rule_of()
        run = [do(1), do(2), send(0, 0), do(3), send(0, 0), do(-1)]
        views = [
            (0, 0, ((),), (1,), ()), (1, 0, ((3,),), (0,), ()), (2, 0, ((3,),), (0,), ()), (2, 0, ((),), (1,), ()),
            (3, 0, ((3,),), (0,), ()), (3, 0, ((),), (1,), ()), (-1, 0, ((),), (1,), ()),
        ]
        for many, view in enumerate(views):
            self.assert_views(rule, program, ("elder", 3), run[:many], view)

    def test_elder_when_an_old_stamp_was_sent(self):
        program = chain_of(write(0), put(0), read(0))
        self.assert_views(rule_of(), program, ("elder", 2), [do(1), do(2), send(0, 0)], (2, 0, ((),), (0,), ()))

    def test_falls_tells_no_memory(self):
        program = chain_of(write(0), write(0), PASS)
        run = [do(1), send(0, 0), do(2), send(0, 0)]
        for many, lines in enumerate([(), (3,), (), (3,), ()]):
            told = views_after(rule_of(), program, ("falls", 0), run[:many])
            self.assertEqual([view[1:] for view in told], [(0, (lines,), (), ())])

    def test_ahead_chooses_one_stamp_of_each_row(self):
        program = ((write(0), (), (0, 1)), (write(1), (), (1, 2)), (PASS, (), ()))
        rule = rule_of()
        self.assert_views(
            rule, program, ("ahead", 0, 1), [do(1)], (1, 0, ((2,), ()), (0, 0), ()), (1, 1, ((3,), ()), (0, 0), ()),
        )
        self.assert_views(
            rule, program, ("ahead", 0, 1), [do(1), do(2)],
            (2, 0, ((2,), (2,)), (0, 0), ()), (2, 1, ((3,), (2,)), (0, 0), ()), (2, 2, ((3,), (3,)), (0, 0), ()),
        )
        self.assert_views(
            rule, program, ("ahead", 1, 0), [do(1), do(2)],
            (2, 0, ((2,), (2,)), (0, 0), ()), (2, 1, ((2,), (3,)), (0, 0), ()),
        )

    def test_ahead_may_choose_an_earlier_stamp(self):
        program = ((write(0), (), (0, 1)), (PASS, (), (2,)), (write(1), (), ()))
        run = [do(0), send(0, 0), do(1)]
        self.assert_views(
            rule_of(), program, ("ahead", 0, 2), run,
            (1, 0, ((2,), ()), (0, 0), ()), (1, 1, ((3,), ()), (0, 0), ()), (1, 1, ((3,), ()), (1, 0), ()),
        )

    def test_ahead_later_stamps_at_the_first_place_are_recent(self):
        program = chain_of(write(0), put(0), put(1))
        self.assert_views(
            rule_of(), program, ("ahead", 0, 2), [do(1), do(2)],
            (2, 0, ((2,), ()), (0, 0), ()), (2, 1, ((3,), ()), (1, 0), ()),
        )
        self.assert_views(
            rule_of(), program, ("ahead", 1, 2), [do(1), do(2)],
            (2, 0, ((2,), ()), (0, 0), ()), (2, 1, ((2,), ()), (1, 0), ()),
        )

    def test_ahead_the_second_stamp_alone_is_recent_at_its_place(self):
        program = chain_of(put(0), put(1), write(1), put(1), PASS)
        rule = rule_of()
        run = [do(1), do(2), do(3), do(4)]
        self.assert_views(
            rule, program, ("ahead", 0, 1), run,
            (4, 0, ((), (2,)), (0, 0), ()), (4, 1, ((), (2,)), (1, 0), ()), (4, 2, ((), (2,)), (1, 0), ()),
        )
        self.assert_views(
            rule, program, ("ahead", 0, 2), run,
            (4, 0, ((), (2,)), (0, 0), ()), (4, 1, ((), (2,)), (1, 0), ()), (4, 2, ((), (3,)), (1, 0), ()),
        )
        self.assert_views(
            rule, program, ("ahead", 0, 3), run,
            (4, 0, ((), (2,)), (0, 0), ()), (4, 1, ((), (2,)), (1, 0), ()), (4, 2, ((), (2,)), (1, 1), ()),
        )

    def test_ahead_a_later_one_of_the_first_row_is_no_choice_before_the_second(self):
        program = chain_of(put(1), put(0), PASS)
        self.assert_views(
            rule_of(), program, ("ahead", 1, 0), [do(1), do(2)],
            (2, 0, ((), ()), (0, 0), ()), (2, 1, ((), ()), (1, 0), ()),
        )

    def test_ahead_in_one_line(self):
        program = chain_of(write(0), write(2), PASS)
        rule = rule_of(width=3)
        self.assert_views(
            rule, program, ("ahead", 0, 1), [do(1), do(2)], (2, 0, ((2, -1, 2),), (0, 0), ()),
            (2, 1, ((3, -1, 2),), (0, 0), ()), (2, 2, ((3, -1, 3),), (0, 0), ()),
        )
        self.assert_views(
            rule, program, ("ahead", 0, 1), [do(1), do(2), send(0, 0, 2)],
            (2, 0, ((),), (0, 0), ()), (2, 1, ((),), (1, 0), ()), (2, 2, ((),), (1, 1), ()),
        )

    def test_ahead_filled(self):
        program = chain_of(put(0), write(1), write(2), PASS)
        rule = rule_of(width=2, sends="filled")
        self.assert_views(
            rule, program, ("ahead", 0, 2), [do(1), do(2), do(3)], (3, 0, ((0, 2), (2, 0)), (0, 0), ()),
            (3, 1, ((1, 2), (2, 0)), (1, 0), ()), (3, 2, ((1, 2), (3, 0)), (1, 0), ()),
        )


class Orders(Views):
    """The order of the stamps that are still to act."""

    rule = rule_of(width=2, lines=2, acting=(1, 2))

    def assert_order(self, program, run, order, rule=None):
        told = views_after(rule or self.rule, program, ("acts",), run)
        self.assertEqual([(view[1], view[3], view[4]) for view in told], [(0, (), order)])

    def test_by_their_places_as_they_were_given(self):
        program = chain_of(write(1), write(2), PASS)
        for run, order in (
            ([], ()), ([do(1)], (1,)), ([do(1), do(2)], (1, 2)), ([do(1), do(2), send(0, 1)], (2,)),
            ([do(1), do(2), send(0, 1), send(1, 0)], ()),
        ):
            self.assert_order(program, run, order)
        self.assert_order(chain_of(write(2), write(1), PASS), [do(1), do(2)], (2, 1))

    def test_other_places_are_not_told(self):
        program = chain_of(write(0), write(1), write(3), put(0), PASS)
        run = [do(1), do(2), do(3), do(4)]
        self.assert_order(program, run, (1,))
        self.assert_views(self.rule, program, ("acts",), run, (4, 0, ((2, 2), (-1, 2)), (), (1,)))

    def test_a_lost_stamp_ends_it(self):
        program = ((write(1), (), (0, 1)), (write(2), (), (0, 2)), (PASS, (), ()))
        for run, order in (
            ([do(0), do(0)], (-1,)), ([do(0), do(0), do(0)], (-1,)), ([do(0), do(1), do(2)], (-1,)),
            ([do(1), do(0), do(1)], (-1,)), ([do(1), do(0), do(1), do(2)], (-1,)),
            ([do(0), do(1), do(0)], (-1,)),
        ):
            self.assert_order(program, run, order)

    def test_what_stands_before_the_lost_stamp_is_told(self):
        program = ((write(1), (), (1,)), (write(2), (), (1, 2)), (PASS, (), ()))
        self.assert_order(program, [do(1), do(1), do(2)], (1, -1))
        self.assert_order(program, [do(1), do(1), do(1)], (1, -1))
        self.assert_order(program, [do(1), do(1), do(2), send(0, 1)], (-1,))

    def test_puts_act_at_once(self):
        program = chain_of(put(1), write(2), PASS)
        self.assert_order(program, [do(1)], ())
        self.assert_order(program, [do(1), do(2)], (2,))

    def test_nothing_is_recent(self):
        program = chain_of(write(1), write(2), PASS)
        run = [do(1), do(2)]
        self.assert_views(self.rule, program, ("acts",), run, (2, 0, ((-1, 2), (2, -1)), (), (1, 2)))
        rule = rule_of(width=2, lines=2, sends="filled", acting=(1, 2))
        self.assert_views(rule, program, ("acts",), run, (2, 0, ((0, 2), (2, 0)), (), (1, 2)))


class RunsOfViews(unittest.TestCase):
    def test_errors(self):
        program = chain_of(write(0), put(1))
        for thing in OTHER_THINGS + [do(0), send(0, 0), send(1, 0)]:
            for run in ([thing], [do(1), thing]):
                if thing == send(0, 0) and len(run) == 2:
                    continue
                with self.assertRaises(BadStep) as caught:
                    views_after(rule_of(), program, ("falls", 0), run)
                self.assertEqual(caught.exception.place, len(run) - 1)
        with self.assertRaises(BadQuestion):
            views_after(rule_of(), program, ("falls", 2), [None])

    def test_a_thousand_steps(self):
        program = ((write(0), (), (1,)), (write(1), (), (0,)))
        run = [do(1), send(0, 0), do(0), send(1, 0)] * 250
        self.assertEqual(views_after(rule_of(), program, ("ahead", 0, 1), run), [
            (0, 0, ((), ()), (0, 0), ()), (0, 1, ((), ()), (1, 0), ()), (0, 2, ((), ()), (1, 0), ()),
            (0, 2, ((), ()), (1, 1), ()),
        ])


class Closed(unittest.TestCase):
    def close(self, views, question=("falls", 0), rule=None, program=None):
        told = views_close(rule or rule_of(), program or chain_of(PASS), question, views)
        self.assertIs(type(told), bool)
        return told

    def test_the_views_of_never_are_the_least_list(self):
        for sends in ("whole", "parts", "filled"):
            rule = rule_of(width=2, sends=sends, acting=(1, 2))
            program = ((write(0), (), (1,)), (put(3), (), (2,)), (read(0), (), ()))
            for question in questions_of(rule, program):
                word, views = answer_to(rule, program, question)
                if word == "run":
                    continue
                for other in (views, views[::-1], views + views):
                    self.assertTrue(self.close(other, question, rule, program))
                for view in views:
                    left = [other for other in views if other != view]
                    self.assertFalse(self.close(left, question, rule, program))
                    self.assertFalse(self.close(left * 2, question, rule, program))

    def test_the_view_of_the_beginning_is_needed(self):
        self.assertFalse(self.close([]))
        self.assertFalse(self.close([(-1, 0, ((),), (), ())]))
        self.assertTrue(self.close([(-1, 0, ((),), (), ()), (0, 0, ((),), (), ())]))

    def test_greater_lists_that_close(self):
        views = [(-1, 0, ((),), (), ()), (0, 0, ((),), (), ())]
        self.assertTrue(self.close(views + [(-1, 0, ((3,),), (), ())]))
        self.assertTrue(self.close(views + [(-1, 0, ((3,),), (), ()), (0, 0, ((3,),), (), ())]))
        self.assertFalse(self.close(views + [(0, 0, ((3,),), (), ())]))

    def test_a_view_from_which_a_step_shows_the_question(self):
        views = [(-1, 0, ((),), (), ()), (0, 0, ((),), (), ())]
        self.assertFalse(self.close(views + [(-1, 0, ((2,),), (), ())]))
        program = chain_of(write(0), put(0))
        views = [(row, 0, (codes,), (), ()) for row in (-1, 0, 1) for codes in ((), (3,), (2,))]
        self.assertFalse(self.close(views, program=program))

    def test_views_that_no_run_has(self):
        # What the cell holds is recent, and memory has a recent stamp too: sending changes the lines alone.
        program = chain_of(read(0))
        views = [(-1, 0, ((),), (1,), ()), (0, 0, ((),), (1,), ())]
        self.assertTrue(self.close(views, ("elder", 0), program=program))
        self.assertTrue(self.close(views + [(-1, 0, ((3,),), (1,), ())], ("elder", 0), program=program))
        self.assertFalse(self.close(views + [(-1, 0, ((2,),), (1,), ())], ("elder", 0), program=program))
        more = [(-1, 0, ((2,),), (1,), ()), (-1, 0, ((),), (0,), ())]
        self.assertTrue(self.close(views + more, ("elder", 0), program=program))
        self.assertFalse(self.close(views + more + [(0, 0, ((2,),), (1,), ())], ("elder", 0), program=program))
        past = rule_of(look="past")
        more = more + [(0, 0, ((2,),), (1,), ())]
        self.assertFalse(self.close(views + more, ("elder", 0), rule=past, program=program))
        more = more + [(0, 0, ((),), (0,), ())]
        self.assertFalse(self.close(views + more, ("elder", 0), rule=past, program=program))

    def test_a_second_stamp_in_memory_and_in_a_cell(self):
        program = chain_of(put(0), write(1), PASS)
        rule = rule_of(width=2, lines=1)
        _, views = answer_to(rule, program, ("ahead", 0, 1))
        more = [(-1, 2, ((-1, 3),), (1, 1), ()), (-1, 2, ((),), (1, 1), ())]
        self.assertTrue(self.close(views + more, ("ahead", 0, 1), rule, program))
        more = [(-1, 2, ((2, 3),), (1, 1), ())]
        self.assertFalse(self.close(views + more, ("ahead", 0, 1), rule, program))

    def test_each_way_to_choose_leads_into_it(self):
        program = chain_of(put(0), put(1))
        rule = rule_of()
        views = [
            (-1, 0, ((), ()), (0, 0), ()), (-1, 1, ((), ()), (1, 0), ()), (-1, 2, ((), ()), (1, 1), ()),
            (0, 0, ((), ()), (0, 0), ()), (1, 0, ((), ()), (0, 0), ()), (1, 1, ((), ()), (1, 0), ()),
        ]
        self.assertTrue(self.close(views, ("ahead", 0, 1), rule, program))
        for view in views:
            self.assertFalse(self.close([other for other in views if other != view], ("ahead", 0, 1), rule, program))

    def test_lists_alone(self):
        views = [(-1, 0, ((),), (), ()), (0, 0, ((),), (), ())]
        for thing in OTHER_THINGS + [tuple(views), set(views), {view: True for view in views}, views[0], iter(views)]:
            with self.subTest(thing=repr(thing)[:80]):
                self.assertFalse(self.close(thing))
        for thing in OTHER_THINGS:
            with self.subTest(thing=repr(thing)[:80]):
                self.assertFalse(self.close(views + [thing]))
                self.assertFalse(self.close([thing] + views))


class Forms(unittest.TestCase):
    """Lists that close, and which views more make them lists that do not, because of their form alone."""

    def check(self, rule, program, question, good, bad):
        """With all the good views the list closes; with one of the bad ones behind it does not."""
        _, views = answer_to(rule, program, question)
        views = views + good
        self.assertIs(views_close(rule, program, question, views), True)
        for view in bad:
            with self.subTest(question=question, view=repr(view)[:80]):
                self.assertIs(views_close(rule, program, question, views + [view]), False)
                self.assertIs(views_close(rule, program, question, [view] + views), False)

    def test_a_tuple_of_five(self):
        view = (-1, 0, ((),), (), ())
        self.check(rule_of(), chain_of(PASS), ("falls", 0), [view], [
            list(view), view[:4], view + ((),), view[1:], (), (view,), [view], (Strange(),) * 5, "views", None,
            ((-1,), 0, ((),), (), ()), {-1: 0}, Strange(), view * 2,
        ])

    def test_the_row(self):
        views = [(row, 0, ((),), (), ()) for row in (-1, 0, 1)]
        bad = [(row, 0, ((),), (), ()) for row in (-2, 2, 7, 10 ** 59, None, "0", (), (0,), False, True, Strange())]
        self.check(rule_of(), chain_of(PASS, PASS), ("falls", 0), views, bad)

    def test_the_stage(self):
        program = chain_of(put(0), put(1))
        things = (3, -1, 10 ** 59, None, "0", (), False, True, Strange())
        for question, lines, memory in ((("falls", 0), ((),), ()), (("acts",), (), ())):
            bad = [(-1, stage, lines, memory, ()) for stage in things + (1, 2)]
            self.check(rule_of(), program, question, [(-1, 0, lines, memory, ())], bad)
        bad = [(-1, stage, ((), ()), (0, 0), ()) for stage in things]
        good = [(-1, stage, ((), ()), (0, 0), ()) for stage in (0, 1, 2)]
        self.check(rule_of(), program, ("ahead", 0, 1), good, bad)
        bad = [(-1, stage, ((),), (1,), ()) for stage in things + (1, 2)]
        self.check(rule_of(), chain_of(read(0)), ("elder", 0), [(-1, 0, ((),), (1,), ())], bad)

    def test_an_entry_for_each_tracked_line(self):
        bad = [(-1, 0, lines, (), ()) for lines in (
            (), ((), ()), [()], [[]], ([],), (None,), None, "", ("",), 0, (0,), (False,), ({},), Strange(),
            (Strange(),),
        )]
        self.check(rule_of(), chain_of(PASS), ("falls", 0), [], bad)
        bad = [(-1, 0, lines, (0, 0), ()) for lines in ((), ((),), ((), (), ()), [(), ()])]
        self.check(rule_of(), chain_of(put(0), put(1)), ("ahead", 0, 1), [], bad)
        self.check(rule_of(width=2), chain_of(put(0), put(1)), ("ahead", 0, 1), [], [
            (-1, 0, ((), ()), (0, 0), ()), (-1, 0, (), (0, 0), ()),
        ])
        self.check(rule_of(), chain_of(PASS), ("acts",), [], [(-1, 0, ((),), (), ())])

    def test_as_many_codes_as_the_width(self):
        bad = [(-1, 0, (codes,), (), ()) for codes in ((3,), (3, -1, -1), (3, 3, 3), [3, -1], (3, None), (3, "2"))]
        self.check(rule_of(width=2), chain_of(PASS), ("falls", 0), [(-1, 0, ((3, -1),), (), ())], bad)

    def test_codes_from_minus_one_to_three(self):
        bad = [(-1, 0, ((code, 2),), (), ()) for code in (-2, 4, 5, 10 ** 59, True, False, None, (), "3", Strange())]
        for sends in ("whole", "parts", "filled"):
            good = [(-1, 0, ((3, 2),), (), ())]
            if sends == "parts":
                good += [(-1, 0, ((3, -1),), (), ()), (-1, 0, ((-1, 2),), (), ())]
            self.check(rule_of(width=2, sends=sends), chain_of(PASS), ("falls", 0), good, bad)

    def test_one_of_them_two_or_more(self):
        rule = rule_of(width=2)
        self.check(rule, chain_of(PASS), ("falls", 0), [], [(-1, 0, ((-1, -1),), (), ())])
        rule = rule_of(width=2, sends="filled")
        bad = [(-1, 0, (codes,), (), ()) for codes in ((1, 0), (0, 0))]
        self.check(rule, chain_of(PASS), ("falls", 0), [], bad)

    def test_recent_codes_at_tracked_places_alone(self):
        good = [(-1, 0, (codes,), (), ()) for codes in ((-1, 2, -1), (3, 2, -1))]
        bad = [(-1, 0, (codes,), (), ()) for codes in ((-1, 3, -1), (3, 3, -1), (3, -1, 3), (-1, 2, 3))]
        self.check(rule_of(width=3), chain_of(PASS), ("falls", 0), good, bad)
        good = [(-1, 0, (codes,), (), ()) for codes in ((1, 2), (3, 0), (3, 2))]
        bad = [(-1, 0, (codes,), (), ()) for codes in ((1, 3), (3, 1), (3, 3))]
        self.check(rule_of(width=2, sends="filled"), chain_of(PASS), ("falls", 0), good, bad)

    def test_no_recent_codes_for_acts(self):
        rule = rule_of(width=2, acting=(0,))
        good = [(-1, 0, ((2, -1),), (), (0,)), (-1, 0, ((-1, 2),), (), ())]
        bad = [(-1, 0, ((3, -1),), (), (0,)), (-1, 0, ((3, -1),), (), ()), (-1, 0, ((2, 3),), (), (0,))]
        self.check(rule, chain_of(PASS), ("acts",), good, bad)
        rule = rule_of(width=2, sends="filled", acting=(0,))
        good = [(-1, 0, ((2, 0),), (), (0,)), (-1, 0, ((2, 2),), (), (0,))]
        bad = [(-1, 0, ((3, 0),), (), (0,)), (-1, 0, ((2, 1),), (), (0,)), (-1, 0, ((1, 2),), (), ())]
        self.check(rule, chain_of(PASS), ("acts",), good, bad)

    def test_empty_cells_and_cells_that_are_not_marked(self):
        bad = [(-1, 0, (codes,), (), ()) for codes in ((3, 0), (1, 2), (0, 2))]
        for sends in ("whole", "parts"):
            self.check(rule_of(width=2, sends=sends), chain_of(PASS), ("falls", 0), [], bad)
        bad = [(-1, 0, (codes,), (), ()) for codes in ((3, -1), (-1, 2))]
        self.check(rule_of(width=2, sends="filled"), chain_of(PASS), ("falls", 0), [], bad)

    def test_as_many_open_lines_as_there_is_room(self):
        program = chain_of(put(0), put(1))
        both = (-1, 0, ((2,), (2,)), (0, 0), ())
        one = [(-1, 0, ((2,), ()), (0, 0), ()), (-1, 0, ((), (2,)), (0, 0), ())]
        self.check(rule_of(room=1), program, ("ahead", 0, 1), one, [both])
        self.check(rule_of(room=2), program, ("ahead", 0, 1), one + [both], [])

    def test_the_memory(self):
        things = (
            (), (0, 0), (1, 1), (2,), (-1,), (True,), (False,), (None,), ("1",), ((),), [1], [], None, 1, "1",
            Strange(), (Strange(),),
        )
        good = [(-1, 0, ((),), (entry,), ()) for entry in (0, 1)]
        bad = [(-1, 0, ((),), memory, ()) for memory in things]
        self.check(rule_of(), chain_of(read(0)), ("elder", 0), good, bad)
        bad = [(-1, 0, ((),), memory, ()) for memory in things[1:] + ((0,), (1,))]
        self.check(rule_of(), chain_of(PASS), ("falls", 0), [], bad)
        bad = [(-1, 0, (), memory, ()) for memory in things[1:] + ((0,), (1,))]
        self.check(rule_of(), chain_of(PASS), ("acts",), [], bad)
        good = [(-1, 2, ((), ()), memory, ()) for memory in ((0, 0), (1, 0), (1, 1))]
        bad = [(-1, 2, ((), ()), memory, ()) for memory in (
            (), (1,), (1, 1, 1), (2, 0), (1, 2), (1, -1), (True, True), (1, True), (False, 0), [1, 1], None, (1, None),
        )]
        self.check(rule_of(), chain_of(put(0), put(1)), ("ahead", 0, 1), good, bad)

    def test_what_is_recent_at_each_stage(self):
        program = chain_of(put(0), put(1))
        rule = rule_of()
        views = {stage: [] for stage in (0, 1, 2)}
        for codes in (((), ()), ((2,), ()), ((3,), ()), ((), (2,)), ((), (3,)), ((3,), (3,))):
            for memory in ((0, 0), (1, 0), (0, 1), (1, 1)):
                for stage in (0, 1, 2):
                    views[stage].append((-1, stage, codes, memory, ()))
        calm = {
            0: [view for view in views[0] if (3,) not in view[2] and view[3] == (0, 0)],
            1: [view for view in views[1] if view[2][1] != (3,) and view[3][1] == 0],
        }
        for stage in (0, 1):
            bad = [view for view in views[stage] if view not in calm[stage]]
            self.check(rule, program, ("ahead", 0, 1), calm[stage], bad)
        # At the last stage each of these is of the form, but from some of them a send shows the question.
        good = [(-1, 2, ((), ()), memory, ()) for memory in ((0, 0), (1, 0), (1, 1))]
        good += [(-1, 2, ((3,), ()), memory, ()) for memory in ((0, 0), (1, 0), (1, 1))]
        good += [(-1, 2, ((), (3,)), (1, 0), ()), (-1, 2, ((), (3,)), (1, 1), ())]
        self.check(rule, program, ("ahead", 0, 1), good, [
            (-1, 2, ((), ()), (0, 1), ()), (-1, 2, ((3,), ()), (0, 1), ()), (-1, 2, ((), (2,)), (0, 1), ()),
        ])

    def test_the_order(self):
        rule = rule_of(acting=(0, 1))
        good = [
            (-1, 0, ((), ()), (), ()), (-1, 0, ((), ()), (), (-1,)), (-1, 0, ((2,), ()), (), (0,)),
            (-1, 0, ((2,), ()), (), (0, -1)), (-1, 0, ((), (2,)), (), (1,)), (-1, 0, ((), (2,)), (), (1, -1)),
        ]
        bad = [(-1, 0, ((), ()), (), order) for order in (
            (0,), (1,), (2,), (-1, -1), (0, -1), (1, -1), (-1, 0), (None,), [], [-1], None, "", (True,), (False,),
            ((),), ("-1",), Strange(), (Strange(),), (-2,),
        )]
        bad += [(-1, 0, ((2,), ()), (), order) for order in (
            (), (1,), (0, 0), (0, 1), (1, 0), (0, -1, -1), (0, 0, -1), (-1, 0), (0, 1, -1), (False,), (0, 2),
        )]
        self.check(rule, chain_of(PASS), ("acts",), good, bad)

    def test_the_order_of_other_questions(self):
        bad = [(-1, 0, ((),), (), order) for order in ((0,), (-1,), [], None, "", 0, (None,), Strange())]
        self.check(rule_of(acting=(0,)), chain_of(PASS), ("falls", 0), [], bad)
        bad = [(-1, 0, ((3,),), (), order) for order in ((0,), (0, -1), (-1,))]
        self.check(rule_of(acting=(0,)), chain_of(PASS), ("falls", 0), [(-1, 0, ((3,),), (), ())], bad)

    def test_acting_places_without_a_marked_cell(self):
        rule = rule_of(width=2, lines=1, sends="filled", acting=(0, 1))
        program = chain_of(PASS)
        whole = [(-1, 0, ((2, 2),), (), (0, 1))]
        bad = [(-1, 0, ((2, 2),), (), order) for order in ((), (0,), (1,), (0, 1, 0), (0, 0), (2,), (0, 2))]
        self.check(rule, program, ("acts",), whole, bad)
