"""Points 3, 18, 19 and 43: answers, and which objects are true ones."""

import unittest

from heldwrites.answers import answer_holds, answer_to, views_close
from heldwrites.errors import BadSpot
from heldwrites.machine import state_after
from heldwrites.questions import run_shows
from histories import dos_of, questions_of, shows
from samples import OTHER_THINGS, PASS, Strange, chain_of, do, put, read, rule_of, send, write

SENDS = ("whole", "parts", "filled")
LOOKS = ("into", "past", "first")


class Asked(unittest.TestCase):
    def assert_run(self, rule, program, question, dos, lot=()):
        """The answer is a run with this many rows done that shows the question in its last step."""
        answer = answer_to(rule, program, question, lot=lot)
        self.assertIs(type(answer), tuple)
        word, run = answer
        self.assertEqual((word, type(run), len(dos_of(run))), ("run", list, dos))
        fenced = tuple(
            (op, tuple(sorted({*fences, *[kind for spot, kind in lot if spot == row]})), nexts)
            for row, (op, fences, nexts) in enumerate(program)
        )
        state_after(rule, fenced, run)
        self.assertTrue(shows(rule, fenced, question, run))
        self.assertFalse(shows(rule, fenced, question, run[:-1]))
        self.assertIs(answer_holds(rule, fenced, question, answer), True)
        return run

    def assert_never(self, rule, program, question, lot=()):
        answer = answer_to(rule, program, question, lot=lot)
        self.assertIs(type(answer), tuple)
        word, views = answer
        self.assertEqual((word, type(views)), ("never", list))
        self.assertEqual(views, sorted(set(views)))
        if not lot:
            self.assertIs(answer_holds(rule, program, question, answer), True)
            self.assertIs(views_close(rule, program, question, views), True)
        return views


class Answers(Asked):
    def test_the_example(self):
        program = chain_of(write(0), write(1))
        rule = rule_of(kinds=((0,),))
        self.assertEqual(self.assert_run(rule, program, ("ahead", 0, 1), 2), [do(1), do(-1), send(1, 0)])
        self.assert_never(rule, program, ("ahead", 0, 1), ((1, 0),))
        self.assert_never(rule_of(room=1, kinds=((0,),)), program, ("ahead", 0, 1))

    def test_the_views_of_never(self):
        program = chain_of(write(0))
        self.assertEqual(answer_to(rule_of(), program, ("falls", 0)), ("never", [
            (-1, 0, ((),), (), ()), (-1, 0, ((3,),), (), ()), (0, 0, ((),), (), ()),
        ]))
        self.assertEqual(answer_to(rule_of(), program, ("falls", 1)), ("never", [
            (-1, 0, ((),), (), ()), (0, 0, ((),), (), ()),
        ]))
        self.assertEqual(answer_to(rule_of(acting=(0,)), program, ("acts",)), ("never", [
            (-1, 0, ((),), (), ()), (-1, 0, ((2,),), (), (0,)), (0, 0, ((),), (), ()),
        ]))

    def test_each_look(self):
        program = chain_of(write(0), read(0))
        for look, word in (("into", "never"), ("past", "run"), ("first", "never")):
            self.assertEqual(answer_to(rule_of(look=look), program, ("elder", 1))[0], word)
        program = chain_of(write(0), put(0), read(0))
        for look in LOOKS:
            self.assert_run(rule_of(look=look), program, ("elder", 2), 3)
        program = chain_of(write(0), read(0), put(0))
        for look, word in (("into", "run"), ("past", "run"), ("first", "never")):
            self.assertEqual(answer_to(rule_of(look=look), program, ("falls", 0))[0], word)

    def test_a_read_of_a_line_that_is_not_tracked_waits_for_no_other(self):
        program = chain_of(write(0), write(1), read(1), put(0))
        self.assert_run(rule_of(look="first"), program, ("falls", 0), 4)
        program = chain_of(write(0), write(1), read(0), put(0))
        self.assert_never(rule_of(look="first"), program, ("falls", 0))

    def test_each_way_of_sending(self):
        program = chain_of(write(0), write(1))
        for sends, word in (("whole", "never"), ("parts", "run"), ("filled", "never")):
            self.assertEqual(answer_to(rule_of(width=2, sends=sends), program, ("ahead", 0, 1))[0], word)
        program = chain_of(write(0), put(1))
        for sends, word in (("whole", "never"), ("parts", "never"), ("filled", "run")):
            self.assertEqual(answer_to(rule_of(width=2, sends=sends), program, ("falls", 1))[0], word)

    def test_eager_or_not(self):
        program = chain_of(write(0), write(1), put(1))
        for sends in SENDS:
            for eager in (True, False):
                rule = rule_of(width=2, sends=sends, eager=eager)
                if eager and sends != "parts":
                    self.assert_never(rule, program, ("ahead", 0, 2))
                else:
                    self.assert_run(rule, program, ("ahead", 0, 2), 3)
        self.assert_never(rule_of(eager=True), chain_of(write(0), put(0)), ("falls", 0))
        self.assert_run(rule_of(), chain_of(write(0), put(0)), ("falls", 0), 2)

    def test_each_room(self):
        for sends in SENDS:
            for room in (1, 2, 3):
                rule = rule_of(lines=3, room=room, sends=sends)
                program = chain_of(write(0), write(1), write(2))
                for question in (("ahead", 0, 1), ("ahead", 0, 2), ("ahead", 1, 2)):
                    if room == 1:
                        self.assert_never(rule, program, question)
                    else:
                        self.assert_run(rule, program, question, question[2] + 1)

    def test_room_for_two_takes_a_third_line_in_turn(self):
        rule = rule_of(lines=3, room=2)
        run = self.assert_run(rule, chain_of(write(0), write(1), write(2), put(0)), ("falls", 0), 4)
        self.assertEqual(run[-1], send(0, 0))

    def test_a_line_that_is_not_tracked_needs_room(self):
        program = chain_of(write(0), write(2), put(0))
        self.assert_never(rule_of(lines=3, room=1), program, ("falls", 0))
        self.assert_run(rule_of(lines=3, room=2), program, ("falls", 0), 3)
        program = chain_of(write(0), write(1), write(2), put(1), put(0))
        self.assert_run(rule_of(lines=3, room=2), program, ("ahead", 0, 3), 4)

    def test_with_as_few_rows_as_any(self):
        long_way = (
            (PASS, (), (1, 4)), (PASS, (), (2,)), (write(0), (), (3,)), (put(0), (), ()),
            (write(0), (), (5,)), (put(0), (), ()),
        )
        self.assertEqual(dos_of(self.assert_run(rule_of(), long_way, ("falls", 0), 3)), [do(4), do(5), do(-1)])
        loop = ((PASS, (), (0, 1)), (write(0), (), (0, 2)), (put(0), (), (1,)))
        self.assert_run(rule_of(), loop, ("falls", 0), 3)

    def test_sends_do_not_count(self):
        rule = rule_of(width=3, lines=3, room=3, sends="parts", acting=(0, 8))
        program = chain_of(write(0), write(8), put(4), write(5))
        self.assert_run(rule, program, ("acts",), 2)

    def test_a_loop_that_must_be_gone_round(self):
        # What row 1 holds is older than a put of row 0 the second time round only.
        program = ((put(0), (), (1,)), (write(0), (), (2,)), (put(1), (), (0, 3)), (PASS, (), ()))
        self.assert_run(rule_of(), program, ("falls", 0), 4)
        self.assert_run(rule_of(), program, ("ahead", 0, 2), 6)

    def test_programs_with_no_way_on(self):
        self.assert_never(rule_of(acting=(0,)), chain_of(PASS), ("acts",))
        program = ((write(0), (), ()), (put(0), (), ()))
        self.assert_never(rule_of(), program, ("falls", 0))
        self.assertEqual({view[0] for view in self.assert_never(rule_of(), program, ("falls", 0))}, {-1, 0})

    def test_loops_without_an_end(self):
        program = ((write(0), (), (0,)),)
        self.assertEqual({view[0] for view in self.assert_never(rule_of(), program, ("falls", 0))}, {0})
        self.assert_run(rule_of(acting=(0,)), program, ("acts",), 2)

    def test_fences_of_the_program(self):
        rule = rule_of(kinds=((0,), (1,), (0, 1)))
        for fences, word in (((), "run"), ((0,), "never"), ((1,), "run"), ((2,), "never"), ((0, 1), "never")):
            program = chain_of(write(0), write(1), fences={1: fences})
            self.assertEqual(answer_to(rule, program, ("ahead", 0, 1))[0], word)
        program = chain_of(write(0), write(1), fences={0: (0, 1, 2)})
        self.assert_run(rule, program, ("ahead", 0, 1), 2)

    def test_fences_for_lines_that_are_not_tracked_do_not_hold_up(self):
        rule = rule_of(lines=3, room=3, kinds=((2,),))
        program = chain_of(write(0), write(2), put(0), fences={2: (0,)})
        self.assertIn(send(2, 0), self.assert_run(rule, program, ("falls", 0), 3))

    def test_puts_alone_show_nothing(self):
        rule = rule_of(look="past", acting=(0, 1))
        program = ((put(0), (), (0, 1)), (put(1), (), (0, 2)), (read(0), (), (0,)))
        for question in questions_of(rule, program):
            self.assert_never(rule, program, question)

    def test_acts_without_acting_places(self):
        program = ((write(0), (), (1,)), (put(0), (), (0, 2)), (PASS, (), ()))
        self.assertEqual(answer_to(rule_of(), program, ("acts",)), ("never", [
            (-1, 0, (), (), ()), (0, 0, (), (), ()), (1, 0, (), (), ()), (2, 0, (), (), ()),
        ]))

    def test_the_widest_rules_with_eight_rows(self):
        everywhere = tuple(range(8))
        places = (0, 1, 2, 3, 4, 5, 8)
        for sends in SENDS:
            rule = rule_of(width=3, lines=3, room=3, sends=sends, kinds=((0,), (0, 1), (0, 1, 2)), acting=(0, 3))
            rows = [(write(place), (), tuple(range(7))) for place in places] + [(put(3), (), everywhere)]
            for question in questions_of(rule, tuple(rows)):
                if 7 in question[1:] or question[0] == "falls":
                    self.assert_never(rule, tuple(rows), question)
            free = tuple((write(place), (), everywhere) for place in places) + ((put(3), (), everywhere),)
            self.assert_run(rule, free, ("ahead", 0, 7), 2)
            self.assert_run(rule, free, ("falls", 3), 3)
            self.assert_run(rule, free, ("acts",), 2)
            fenced = tuple((op, (2,), nexts) for op, _, nexts in free)
            for question in questions_of(rule, fenced):
                if sends == "filled" and question[0] == "acts":
                    self.assert_run(rule, fenced, question, 2)
                else:
                    self.assert_never(rule, fenced, question)

    def test_runs_are_short(self):
        rule = rule_of(width=1, lines=3, room=1, kinds=((0,), (1,), (2,)))
        program = chain_of(write(0), write(1), write(2), write(1), write(0), write(2), write(0), put(0))
        run = self.assert_run(rule, program, ("falls", 0), 8)
        self.assertLessEqual(len(run), 16)


class Lots(Asked):
    rule = rule_of(kinds=((0,), (1,)))
    program = chain_of(write(0), write(1), put(0))

    def test_a_lot_takes_runs_away(self):
        self.assert_run(self.rule, self.program, ("falls", 0), 3)
        for lot in (((1, 0),), ((2, 0),), ((1, 0), (2, 0)), ((0, 0), (0, 1), (1, 0), (1, 1), (2, 0), (2, 1))):
            self.assert_never(self.rule, self.program, ("falls", 0), lot)
        for lot in ((), ((0, 0),), ((0, 1), (1, 1)), ((0, 0), (2, 1))):
            self.assert_run(self.rule, self.program, ("falls", 0), 3, lot)

    def test_the_views_are_those_with_the_fences(self):
        views = self.assert_never(self.rule, self.program, ("falls", 0), ((1, 0),))
        self.assertEqual(views, [
            (-1, 0, ((),), (), ()), (0, 0, ((),), (), ()), (1, 0, ((),), (), ()), (1, 0, ((3,),), (), ()),
            (2, 0, ((),), (), ()),
        ])
        fenced = chain_of(write(0), write(1), put(0), fences={1: (0,)})
        self.assertEqual(answer_to(self.rule, fenced, ("falls", 0)), ("never", views))

    def test_the_fences_stand_beside_those_of_the_program(self):
        program = chain_of(write(0), write(1), put(0), fences={1: (0,), 2: (1,)})
        self.assert_never(self.rule, program, ("falls", 0), ((1, 1),))
        self.assertEqual(
            answer_to(self.rule, program, ("falls", 0), lot=((1, 0),)), answer_to(self.rule, program, ("falls", 0)),
        )

    def test_the_empty_lot_is_none(self):
        for question in questions_of(self.rule, self.program):
            self.assertEqual(
                answer_to(self.rule, self.program, question, lot=()), answer_to(self.rule, self.program, question),
            )

    def test_by_name_only(self):
        with self.assertRaises(TypeError):
            answer_to(self.rule, self.program, ("falls", 0), ())

    def test_bad_lots(self):
        for lot in OTHER_THINGS + [
            [], [(0, 0)], (0, 0), ((0,),), ((0, 0, 0),), ([0, 0],), ((3, 0),), ((-1, 0),), ((0, 2),), ((0, -1),),
            ((0, 0), (0, 0)), ((1, 0), (0, 0)), ((0, 1), (0, 0)), ((False, 0),), ((0, True),), ((0, "0"),),
            (("0", 0),), ((0, None),), ((0, 0), None), (Strange(),), ((Strange(), 0),), ((0, Strange()),), {(0, 0): 0},
        ]:
            if lot == () and type(lot) is tuple:
                continue
            with self.subTest(lot=repr(lot)[:80]), self.assertRaises(BadSpot):
                answer_to(self.rule, self.program, ("falls", 0), lot=lot)

    def test_a_rule_without_kinds_has_no_spots(self):
        for lot in (((0, 0),), ((2, 0),)):
            with self.assertRaises(BadSpot):
                answer_to(rule_of(), self.program, ("falls", 0), lot=lot)
        self.assertEqual(answer_to(rule_of(), self.program, ("falls", 0), lot=())[0], "run")


class TrueAnswers(Asked):
    def test_longer_runs(self):
        program = ((PASS, (), (0, 1)), (write(0), (), (2,)), (put(0), (), (3,)), (read(0), (), (1, 3)))
        self.assert_run(rule_of(), program, ("falls", 0), 3)
        run = [do(0), do(0), do(1), do(2), do(3), send(0, 0)]
        for more in ([], [do(3)], [do(3), do(1), do(2)]):
            self.assertIs(answer_holds(rule_of(), program, ("falls", 0), ("run", run + more)), True)
        long_run = [do(0)] * 994 + run[2:] + [do(3)] * 2
        self.assertIs(answer_holds(rule_of(), program, ("falls", 0), ("run", long_run)), True)

    def test_views_in_another_order_and_with_duplicates(self):
        rule, program = rule_of(width=2, acting=(0, 3)), chain_of(write(0), write(1))
        for question in questions_of(rule, program):
            word, views = answer_to(rule, program, question)
            self.assertEqual(word, "never")
            for others in (views[::-1], views + views, views + views[:1], views[2:] + views[:2], views[:1] * 9 + views):
                self.assertIs(answer_holds(rule, program, question, ("never", others)), True)

    def test_runs_that_show_nothing_or_cannot_be_taken(self):
        program = chain_of(write(0), put(0), PASS)
        good = [do(1), do(2), send(0, 0)]
        self.assertIs(answer_holds(rule_of(), program, ("falls", 0), ("run", good)), True)
        for run in (
            [], good[:1], good[:2], [do(1), send(0, 0), do(2)], good + [send(0, 0)], good + [None], good[::-1],
            [do(1), do(-1), send(0, 0)], [do(1), do(2), send(0, 0, 1)], tuple(good), None, "run", {}, 0, True,
            [("do", True), do(2), send(0, 0)], [do(1), do(2), ["send", 0, (0,)]], [do(1), do(2), send(False, 0)],
            [do(1), do(2), send(0, False)], [good], good + [Strange()],
        ):
            self.assertIs(answer_holds(rule_of(), program, ("falls", 0), ("run", run)), False)
        self.assertIs(answer_holds(rule_of(), program, ("falls", 1), ("run", good)), False)

    def test_views_left_out_changed_or_added(self):
        rule, program = rule_of(width=2, acting=(0, 3)), chain_of(write(0), write(1), write(2), fences={})
        for question in (("falls", 0), ("falls", 2), ("acts",), ("ahead", 1, 0), ("ahead", 2, 1)):
            word, views = answer_to(rule, program, question)
            self.assertEqual(word, "never")
            for place, view in enumerate(views):
                left = views[:place] + views[place + 1:]
                self.assertIs(answer_holds(rule, program, question, ("never", left)), False)
                for index, other in ((0, -1), (0, 7), (1, 1), (2, ()), (3, (1,)), (4, (-1,)), (0, None), (2, [])):
                    changed = view[:index] + (other,) + view[index + 1:]
                    if changed not in views:
                        self.assertIs(answer_holds(rule, program, question, ("never", left + [changed])), False)
                        self.assertIs(answer_holds(rule, program, question, ("never", views + [changed])), False)

    def test_greater_sets_are_not_the_views_that_runs_have(self):
        program = chain_of(PASS)
        views = [(-1, 0, ((),), (), ()), (0, 0, ((),), (), ())]
        more = views + [(-1, 0, ((3,),), (), ())]
        self.assertIs(views_close(rule_of(), program, ("falls", 0), more), True)
        self.assertIs(answer_holds(rule_of(), program, ("falls", 0), ("never", views)), True)
        self.assertIs(answer_holds(rule_of(), program, ("falls", 0), ("never", more)), False)

    def test_never_where_some_run_shows_it(self):
        program = chain_of(write(0), put(0))
        views = [
            (-1, 0, ((),), (), ()), (-1, 0, ((2,),), (), ()), (0, 0, ((),), (), ()), (1, 0, ((),), (), ()),
            (1, 0, ((3,),), (), ()),
        ]
        for shown in (views, views[:1], []):
            self.assertIs(answer_holds(rule_of(), program, ("falls", 0), ("never", shown)), False)

    def test_true_and_false_in_views(self):
        program = chain_of(read(0))
        views = [(-1, 0, ((),), (1,), ()), (0, 0, ((),), (1,), ())]
        self.assertIs(answer_holds(rule_of(), program, ("elder", 0), ("never", views)), True)
        for view in (
            (False, 0, ((),), (1,), ()), (0, False, ((),), (1,), ()), (0, 0, ((),), (True,), ()),
            [0, 0, ((),), (1,), ()], (0, 0, [()], (1,), ()), (0, 0, ((),), [1], ()), (0, 0, ((),), (1,), []),
            (0, 0, ([],), (1,), ()),
        ):
            self.assertIs(answer_holds(rule_of(), program, ("elder", 0), ("never", views[:1] + [view])), False)
            self.assertIs(answer_holds(rule_of(), program, ("elder", 0), ("never", views + [view])), False)

    def test_any_other_object(self):
        program = chain_of(write(0), put(0))
        run, never = answer_to(rule_of(), program, ("falls", 0)), answer_to(rule_of(), program, ("falls", 1))
        things = OTHER_THINGS + [
            list(run), run + ((),), run[:1], run[1:], ("Run", run[1]), ("never", run[1]), (b"run", run[1]),
            (None, run[1]), (("run",), run[1]), ("run", tuple(run[1])), ("run",), ("run", None), (run,), [run],
            {"run": run[1]}, (run[1], "run"), (Strange(), run[1]), ("run", Strange()), ("never", Strange()),
            ("never", OTHER_THINGS), ("run", OTHER_THINGS), ("run", "never"), "run",
        ]
        for thing in things:
            with self.subTest(thing=repr(thing)[:80]):
                self.assertIs(answer_holds(rule_of(), program, ("falls", 0), thing), False)
        things = OTHER_THINGS + [
            list(never), never + ((),), never[:1], ("Never", never[1]), ("run", never[1]), ("never", tuple(never[1])),
            ("never", {view: True for view in never[1]}), ("never", set(never[1])), ("never", None), (None, never[1]),
        ]
        for thing in things:
            with self.subTest(thing=repr(thing)[:80]):
                self.assertIs(answer_holds(rule_of(), program, ("falls", 1), thing), False)
        for thing in OTHER_THINGS:
            for views in ([thing], never[1] + [thing], [thing] + never[1]):
                self.assertIs(answer_holds(rule_of(), program, ("falls", 1), ("never", views)), False)

    def test_each_true_answer(self):
        for sends in SENDS:
            rule = rule_of(width=2, sends=sends, look="past", acting=(0, 2))
            program = ((write(0), (), (1,)), (put(2), (), (0, 2)), (read(0), (), (1,)))
            for question in questions_of(rule, program):
                answer = answer_to(rule, program, question)
                self.assertIs(answer_holds(rule, program, question, answer), True)
                if answer[0] == "run":
                    self.assertIs(run_shows(rule, program, question, answer[1]), True)
