"""Points 37 and 38: a live machine, its steps taken and taken back."""

import inspect
import time
import unittest

from heldwrites import live
from heldwrites.errors import BadPlace, BadProgram, BadQuestion, BadRule, BadStep, NothingToUndo
from heldwrites.live import Machine
from heldwrites.machine import given_by, possible_steps, state_after, told_by
from heldwrites.questions import run_shows
from histories import questions_of
from samples import OTHER_THINGS, PASS, Strange, chain_of, do, put, read, rule_of, send, write

RULE = rule_of(width=2, lines=2, sends="parts", kinds=((0,),), acting=(0, 3))
PROGRAM = ((write(0), (), (1,)), (write(1), (), (2, 4)), (put(3), (), (3,)), (read(0), (), (0, 4)), (PASS, (0,), ()))
RUN = [do(1), do(2), send(0, 1), do(3), do(0), send(0, 0), do(1), do(4), send(0, 0, 1), do(-1)]


def machine_with(run, rule=RULE, program=PROGRAM):
    machine = Machine(rule, program)
    machine.try_all(run)
    return machine


class Checks(unittest.TestCase):
    def assert_is(self, machine, run, rule=RULE, program=PROGRAM):
        """Everything that the machine tells is that of the run."""
        self.assertEqual(machine.run(), run)
        self.assertEqual(len(machine), len(run))
        self.assertEqual(machine.state(), state_after(rule, program, run))
        self.assertEqual(machine.steps(), possible_steps(rule, program, run))
        self.assertEqual([machine[place] for place in range(rule[0] * rule[1])], list(machine.state()[2]))
        self.assertEqual((machine.rule, machine.program), (rule, program))

    def assert_step_refused(self, place, call, *arguments):
        with self.assertRaises(BadStep) as caught:
            call(*arguments)
        self.assertEqual(caught.exception.place, place)
        self.assertIs(type(caught.exception.place), int)


class TheClass(unittest.TestCase):
    def test_all_is_defined_in_the_class_itself(self):
        self.assertIs(inspect.getmodule(Machine), live)
        for name in (
            "__init__", "do", "send", "undo", "state", "run", "steps", "drain", "__getitem__", "__len__", "__eq__",
            "copy", "try_all", "shows", "rule", "program",
        ):
            self.assertIn(name, vars(Machine))
        for name in ("rule", "program"):
            self.assertIsInstance(vars(Machine)[name], property)

    def test_the_names_of_the_arguments(self):
        for method, names in (
            (Machine, ["rule", "program"]), (Machine.do, ["self", "row"]), (Machine.send, ["self", "line", "offsets"]),
            (Machine.undo, ["self"]), (Machine.try_all, ["self", "steps"]), (Machine.shows, ["self", "question"]),
            (Machine.state, ["self"]), (Machine.run, ["self"]), (Machine.steps, ["self"]), (Machine.drain, ["self"]),
            (Machine.copy, ["self"]),
        ):
            self.assertEqual(list(inspect.signature(method).parameters), names)

    def test_arguments_by_name(self):
        machine = Machine(program=PROGRAM, rule=RULE)
        self.assertEqual(machine.do(row=1), 1)
        machine.send(offsets=(0,), line=0)
        machine.try_all(steps=[do(2), send(0, 1)])
        self.assertIs(machine.shows(question=("acts",)), False)
        self.assertEqual(machine.run(), [do(1), send(0, 0), do(2), send(0, 1)])

    def test_bad_rules_and_programs(self):
        for thing in OTHER_THINGS + [RULE[:7], list(RULE), PROGRAM]:
            for program in (PROGRAM, None):
                with self.assertRaises(BadRule):
                    Machine(thing, program)
        for thing in OTHER_THINGS + [PROGRAM[:3], list(PROGRAM), RULE, chain_of(write(4))]:
            with self.assertRaises(BadProgram):
                Machine(RULE, thing)

    def test_what_it_was_made_of_never_changes(self):
        machine = machine_with(RUN)
        for name, thing in (("rule", rule_of()), ("program", chain_of(PASS))):
            with self.assertRaises(AttributeError):
                setattr(machine, name, thing)
        self.assertEqual((machine.rule, machine.program), (RULE, PROGRAM))
        self.assertEqual((type(machine.rule), type(machine.program)), (tuple, tuple))


class Steps(Checks):
    def test_the_beginning(self):
        self.assert_is(Machine(RULE, PROGRAM), [])

    def test_behind_every_sort_of_step(self):
        machine = Machine(RULE, PROGRAM)
        for place, step in enumerate(RUN):
            if step[0] == "do":
                machine.do(step[1])
            else:
                machine.send(step[1], step[2])
            self.assert_is(machine, RUN[:place + 1])

    def test_what_do_returns(self):
        machine = Machine(RULE, PROGRAM)
        told = []
        for step in RUN:
            told.append(machine.do(step[1]) if step[0] == "do" else machine.send(step[1], step[2]))
        # The write of the third row is read from its cell, which is still open.
        self.assertEqual(told, [1, 2, None, 3, 1, None, 4, 5, None, None])
        self.assertEqual(told_by(RULE, PROGRAM, RUN), [(3, 0, 1)])
        self.assertEqual(len(given_by(RULE, PROGRAM, RUN)), 5)

    def test_what_a_read_tells_by_each_look(self):
        program = chain_of(write(0), read(0), read(1))
        for look, told in (("into", 1), ("past", 0)):
            machine = machine_with([do(1)], rule_of(look=look), program)
            self.assertEqual(machine.do(2), told)
            self.assertEqual(machine.do(-1), 0)
        machine = machine_with([do(1)], rule_of(look="first"), program)
        self.assert_step_refused(0, machine.do, 2)
        machine.send(0, (0,))
        self.assertEqual(machine.do(2), 1)

    def test_a_step_that_cannot_be_taken(self):
        machine = machine_with(RUN[:4])
        for row in (1, 2, 3, 5, -1, -2, 10 ** 59):
            self.assert_step_refused(0, machine.do, row)
        for line, offsets in (
            (0, ()), (0, (1,)), (0, (0, 1)), (0, (0, 0)), (1, (0,)), (1, ()), (2, (0,)), (-1, (0,)), (10 ** 59, (0,)),
        ):
            self.assert_step_refused(0, machine.send, line, offsets)
        self.assert_is(machine, RUN[:4])
        self.assertEqual(machine.do(4), 1)
        self.assert_step_refused(0, machine.do, -1)
        self.assert_is(machine, RUN[:4] + [do(4)])

    def test_any_object_in_the_place_of_a_row_a_line_or_offsets(self):
        machine = machine_with(RUN[:1])
        for thing in OTHER_THINGS + [True, (1,), [1], "1", do(1), Strange()]:
            self.assert_step_refused(0, machine.do, thing)
            self.assert_step_refused(0, machine.send, 0, thing)
            self.assert_step_refused(0, machine.send, thing, None)
        for line, offsets in ((False, (0,)), (0, (False,)), (0, [0]), (0, 0), (0, "0"), ("0", (0,)), (None, (0,))):
            self.assert_step_refused(0, machine.send, line, offsets)
        self.assert_step_refused(0, Machine(RULE, chain_of(PASS, PASS)).do, True)
        self.assert_is(machine, RUN[:1])

    def test_a_program_that_has_stopped(self):
        machine = machine_with(RUN)
        for row in (-1, 0, 4):
            self.assert_step_refused(0, machine.do, row)
        self.assertEqual(machine.steps(), [])
        self.assert_is(machine, RUN)


class Places(Checks):
    def test_the_stamps_of_memory(self):
        machine = Machine(RULE, PROGRAM)
        told = [[machine[place] for place in range(4)]]
        for step in RUN:
            machine.try_all([step])
            told.append([machine[place] for place in range(4)])
        self.assertEqual(told[3], [0, 2, 0, 0])
        self.assertEqual(told[4], [0, 2, 0, 3])
        self.assertEqual(told[6], [1, 2, 0, 3])
        self.assertEqual(told[-1], [4, 5, 0, 3])

    def test_any_other_object(self):
        machine = machine_with(RUN)
        things = [thing for thing in OTHER_THINGS if type(thing) is not int]
        for thing in things + [-1, -4, 4, 5, 10 ** 59, True, False, "0", (0,), [0], slice(0, 1), slice(None), b"0"]:
            with self.assertRaises(BadPlace):
                machine[thing]
        self.assert_is(machine, RUN)

    def test_a_rule_with_one_place(self):
        machine = Machine(rule_of(lines=1), chain_of(put(0)))
        self.assertEqual(machine[0], 0)
        machine.do(-1)
        self.assertEqual(machine[0], 1)
        with self.assertRaises(BadPlace):
            machine[1]


class Undo(Checks):
    def test_back_to_the_beginning_and_no_further(self):
        machine = machine_with(RUN)
        for left in reversed(range(len(RUN))):
            self.assertIsNone(machine.undo())
            self.assert_is(machine, RUN[:left])
        for _ in range(2):
            with self.assertRaises(NothingToUndo):
                machine.undo()
            self.assert_is(machine, [])

    def test_a_new_machine_has_nothing_to_undo(self):
        with self.assertRaises(NothingToUndo):
            Machine(RULE, PROGRAM).undo()

    def test_another_way_behind_it(self):
        machine = machine_with(RUN)
        for _ in range(8):
            machine.undo()
        machine.try_all([send(0, 0, 1), do(3)])
        self.assert_is(machine, [do(1), do(2), send(0, 0, 1), do(3)])
        self.assertEqual(machine.state()[4], (1, 3))

    def test_several_acts_of_one_send(self):
        rule = rule_of(width=2, acting=(0, 1))
        machine = machine_with([do(1), do(2), do(3), send(0, 0, 1)], rule, chain_of(write(1), write(0), put(1), PASS))
        self.assertEqual(machine.state()[4], (3, 2, 1))
        machine.undo()
        self.assertEqual(machine.state()[4], (3,))
        machine.undo()
        self.assertEqual(machine.state()[4], ())


class Drain(Checks):
    def drained(self, sends, run, program):
        rule = rule_of(width=2, lines=3, room=3, sends=sends, acting=(1, 4))
        machine = machine_with(run, rule, program)
        steps = machine.drain()
        self.assertIs(type(steps), list)
        self.assert_is(machine, run + steps, rule, program)
        self.assertEqual(machine.state()[3], ())
        steps.append(None)
        self.assertEqual(machine.drain(), [])
        self.assert_is(machine, run + steps[:-1], rule, program)
        for step in reversed(steps[:-1]):
            self.assertEqual(machine.run()[-1], step)
            machine.undo()
        self.assert_is(machine, run, rule, program)
        return steps[:-1]

    def test_one_line(self):
        for sends, one, both in (("whole", (1,), (0, 1)), ("parts", (1,), (0, 1)), ("filled", (0, 1), (0, 1))):
            program = chain_of(write(3), write(2))
            self.assertEqual(self.drained(sends, [do(1)], program), [("send", 1, one)])
            self.assertEqual(self.drained(sends, [do(1), do(-1)], program), [("send", 1, both)])

    def test_several_lines_by_number(self):
        program = chain_of(write(5), write(0), write(1), write(2))
        run = [do(1), do(2), do(3), do(-1)]
        for sends, second, third in (("whole", (0,), (1,)), ("parts", (0,), (1,)), ("filled", (0, 1), (0, 1))):
            steps = [("send", 0, (0, 1)), ("send", 1, second), ("send", 2, third)]
            self.assertEqual(self.drained(sends, run, program), steps)

    def test_a_line_that_was_sent_in_part(self):
        program = chain_of(write(0), write(1))
        self.assertEqual(self.drained("parts", [do(1), do(-1), send(0, 0)], program), [send(0, 1)])

    def test_no_line(self):
        for sends in ("whole", "parts", "filled"):
            self.assertEqual(self.drained(sends, [], chain_of(write(0))), [])


class Lists(Checks):
    def test_returned_lists_are_new(self):
        machine = machine_with(RUN[:2])
        for method, told in (
            (machine.run, RUN[:2]), (machine.steps, possible_steps(RULE, PROGRAM, RUN[:2])), (machine.drain, []),
        ):
            if method == machine.drain:
                machine.drain()
            found = method()
            self.assertIs(type(found), list)
            self.assertEqual(found, told)
            found.clear()
            found.append(None)
            self.assertEqual(method(), told)
        self.assertIs(type(machine.state()), tuple)

    def test_lists_that_are_passed_are_not_kept(self):
        machine = Machine(RULE, PROGRAM)
        steps = list(RUN)
        machine.try_all(steps)
        self.assertEqual(steps, RUN)
        steps.clear()
        self.assert_is(machine, RUN)


class Equality(Checks):
    def assert_unlike(self, first, second):
        self.assertIs(first == second, False)
        self.assertIs(second == first, False)
        self.assertIs(first != second, True)

    def test_equal_rules_programs_and_runs(self):
        for place in range(len(RUN) + 1):
            first, second = machine_with(RUN[:place]), machine_with(RUN[:place])
            self.assertIs(first == second, True)
            self.assertIs(first != second, False)
            self.assertIs(first == first, True)

    def test_unlike_rules(self):
        program = chain_of(write(0), PASS)
        rules = [
            rule_of(), rule_of(width=2), rule_of(lines=3), rule_of(room=1), rule_of(sends="parts"), rule_of(eager=True),
            rule_of(look="past"), rule_of(kinds=((0,),)), rule_of(acting=(0,)),
        ]
        for run in ([], [do(1)]):
            machines = [machine_with(run, rule, program) for rule in rules]
            for place, machine in enumerate(machines):
                for other in machines[:place]:
                    self.assert_unlike(machine, other)

    def test_unlike_programs(self):
        self.assert_unlike(Machine(RULE, chain_of(PASS)), Machine(RULE, chain_of(read(0))))
        self.assert_unlike(Machine(RULE, chain_of(PASS)), Machine(RULE, chain_of(PASS, PASS)))
        first = machine_with([do(1)], RULE, chain_of(PASS, PASS))
        self.assert_unlike(first, machine_with([do(1)], RULE, chain_of(PASS, PASS, fences={1: (0,)})))

    def test_unlike_runs(self):
        machines = [machine_with(RUN[:place]) for place in range(len(RUN) + 1)]
        for place, machine in enumerate(machines):
            for other in machines[:place]:
                self.assert_unlike(machine, other)

    def test_unlike_runs_to_one_state(self):
        program = chain_of(write(0), write(1))
        first = machine_with([do(1), do(-1), send(0, 0), send(0, 1)], RULE, program)
        second = machine_with([do(1), do(-1), send(0, 1), send(0, 0)], RULE, program)
        self.assertEqual(first.state(), second.state())
        self.assert_unlike(first, second)

    def test_undo_makes_equal_again(self):
        first, second = machine_with(RUN), machine_with(RUN[:-1])
        self.assert_unlike(first, second)
        first.undo()
        self.assertEqual(first, second)

    def test_any_other_object(self):
        machine = machine_with(RUN)
        things = [thing for thing in OTHER_THINGS if not isinstance(thing, Strange)]
        for thing in things + [RULE, PROGRAM, RUN, (RULE, PROGRAM, RUN), machine.state(), Machine]:
            self.assertIs(machine == thing, False)
            self.assertIs(machine != thing, True)
        self.assertIs(machine == Strange(), False)


class Copies(Checks):
    def test_the_same_rule_program_and_run(self):
        for place in range(len(RUN) + 1):
            machine = machine_with(RUN[:place])
            other = machine.copy()
            self.assertIsNot(other, machine)
            self.assertIs(type(other), Machine)
            self.assertEqual(other, machine)
            self.assert_is(other, RUN[:place])

    def test_they_go_on_apart(self):
        machine = machine_with(RUN[:4])
        other = machine.copy()
        machine.do(0)
        self.assert_is(other, RUN[:4])
        other.send(0, (0,))
        other.do(4)
        self.assert_is(machine, RUN[:5])
        self.assert_is(other, RUN[:4] + [send(0, 0), do(4)])
        for _ in range(5):
            machine.undo()
        self.assert_is(other, RUN[:4] + [send(0, 0), do(4)])
        for _ in range(6):
            other.undo()
        machine.try_all(RUN)
        self.assert_is(other, [])
        self.assert_is(machine, RUN)

    def test_copies_of_copies(self):
        machine = machine_with(RUN[:3])
        second = machine.copy()
        third = second.copy()
        second.drain()
        third.undo()
        self.assert_is(machine, RUN[:3])
        self.assert_is(second, RUN[:3] + [send(0, 0)])
        self.assert_is(third, RUN[:2])


class TryAll(Checks):
    def test_good_lists(self):
        machine = Machine(RULE, PROGRAM)
        self.assertIsNone(machine.try_all(RUN[:4]))
        self.assert_is(machine, RUN[:4])
        self.assertIsNone(machine.try_all([]))
        self.assert_is(machine, RUN[:4])
        self.assertIsNone(machine.try_all(RUN[4:]))
        self.assert_is(machine, RUN)

    def test_each_step_is_taken_back_alone(self):
        machine = machine_with(RUN)
        for left in reversed(range(len(RUN))):
            machine.undo()
            self.assert_is(machine, RUN[:left])

    def test_a_bad_entry_at_each_index(self):
        for start in (0, 2, 5):
            machine = machine_with(RUN[:start])
            rest = RUN[start:]
            for place in range(len(rest) + 1):
                for bad in (None, do(9), send(2, 0), ("do", True), ("send", 0, [0]), list(do(1)), Strange()):
                    self.assert_step_refused(place, machine.try_all, rest[:place] + [bad] + rest[place:])
                    self.assert_is(machine, RUN[:start])
                    self.assertEqual(machine, machine_with(RUN[:start]))
            machine.try_all(rest)
            self.assert_is(machine, RUN)
            for left in reversed(range(len(RUN))):
                machine.undo()
                self.assert_is(machine, RUN[:left])

    def test_the_first_of_several(self):
        machine = machine_with(RUN[:1])
        self.assert_step_refused(1, machine.try_all, [do(2), None, None])
        self.assert_step_refused(0, machine.try_all, [None, do(2), None])
        self.assert_is(machine, RUN[:1])

    def test_a_step_that_could_be_taken_later_or_before(self):
        machine = machine_with(RUN[:1])
        self.assert_step_refused(1, machine.try_all, [send(0, 0), send(0, 0), do(2)])
        self.assert_step_refused(2, machine.try_all, [do(4), send(0, 0), do(-1)])
        self.assert_is(machine, RUN[:1])

    def test_any_other_object_than_a_list(self):
        machine = machine_with(RUN[:1])
        for thing in (None, (), (do(2),), do(2), "do 2", {}, 0, True, range(0)):
            self.assert_step_refused(0, machine.try_all, thing)
        self.assert_is(machine, RUN[:1])

    def test_its_own_run(self):
        program = ((write(0), (), (0,)),)
        machine = machine_with([do(0)] * 3, RULE, program)
        machine.try_all(machine.run())
        self.assert_is(machine, [do(0)] * 6, RULE, program)


class Shows(Checks):
    rule = rule_of(width=2, lines=2, sends="parts", look="past", acting=(0, 2))
    program = ((write(0), (), (1,)), (write(2), (), (2,)), (read(0), (), (3,)), (put(0), (), (4,)), (read(0), (), (0,)))
    moves = [do(1), do(2), send(1, 0), do(3), do(4), do(0), send(0, 0), do(1), do(2), do(3), do(4), do(0), send(0, 0)]

    def all_shown(self, machine):
        return {question: machine.shows(question) for question in questions_of(self.rule, self.program)}

    def test_each_question_behind_steps_and_behind_undo(self):
        machine = Machine(self.rule, self.program)
        told = [self.all_shown(machine)]
        for place, step in enumerate(self.moves):
            machine.try_all([step])
            told.append(self.all_shown(machine))
            for question, shown in told[-1].items():
                self.assertIs(shown, run_shows(self.rule, self.program, question, self.moves[:place + 1]))
        self.assertEqual(set(told[0].values()), {False})
        for question in (("elder", 2), ("falls", 0), ("ahead", 0, 1), ("acts",), ("elder", 4)):
            self.assertIn(question, told[0])
        for question in (("elder", 2), ("falls", 0), ("ahead", 0, 1), ("acts",)):
            self.assertIs(told[-1][question], True)
        for left in reversed(range(len(self.moves))):
            machine.undo()
            self.assertEqual(self.all_shown(machine), told[left])

    def test_in_copies(self):
        machine = machine_with(self.moves[:6], self.rule, self.program)
        other = machine.copy()
        self.assertEqual(self.all_shown(machine), self.all_shown(other))
        other.send(0, (0,))
        self.assertIs(other.shows(("falls", 0)), True)
        self.assertIs(machine.shows(("falls", 0)), False)
        other.undo()
        self.assertIs(other.shows(("falls", 0)), False)

    def test_anything_else(self):
        machine = machine_with(self.moves, self.rule, self.program)
        for thing in OTHER_THINGS + [
            ("elder", 0), ("elder", 9), ("elder", True), ("falls", 4), ("falls", -1), ("falls", False), ("ahead", 0),
            ("ahead", 0, 3), ("ahead", 0, 2), ("ahead", False, 1), ("acts", 0), "acts", ["acts"], ("elder",),
        ]:
            with self.assertRaises(BadQuestion):
                machine.shows(thing)
        self.assert_is(machine, self.moves, self.rule, self.program)


class LongRuns(Checks):
    def test_more_than_a_thousand_steps_stay_quick(self):
        rule = rule_of(width=3, lines=3, room=3, sends="parts", acting=(0, 8))
        program = ((write(0), (), (1,)), (put(8), (), (2,)), (read(0), (), (0,)))
        machine = Machine(rule, program)
        many = 10000
        start = time.process_time()
        for turn in range(many):
            self.assertEqual(machine.do(1), 2 * turn + 1)
            machine.send(0, (0,))
            self.assertEqual(machine.do(2), 2 * turn + 2)
            self.assertEqual(machine.do(0), 2 * turn + 1)
            self.assertEqual(machine[0], 2 * turn + 1)
        self.assertEqual(len(machine), 4 * many)
        self.assertEqual(machine.state()[:2], (0, 2 * many))
        self.assertEqual(machine.state()[4], tuple(range(1, 2 * many + 1)))
        for question in (("elder", 2), ("falls", 0), ("ahead", 0, 1), ("acts",)):
            self.assertIs(machine.shows(question), False)
        other = machine.copy()
        self.assertEqual(other, machine)
        self.assert_step_refused(4 * many, other.try_all, machine.run() + [None])
        self.assertEqual(other, machine)
        while len(machine) > 3:
            machine.undo()
        self.assert_is(machine, [do(1), send(0, 0), do(2)], rule, program)
        # Were each step to copy all acts, this would take many times as long.
        self.assertLess(time.process_time() - start, 20)

    def test_what_is_shown_far_behind(self):
        rule = rule_of(lines=2, acting=(0, 1))
        program = ((write(0), (), (1,)), (write(1), (), (0,)))
        machine = Machine(rule, program)
        for _ in range(600):
            machine.do(1)
            machine.drain()
            machine.do(0)
            machine.drain()
        self.assertIs(machine.shows(("acts",)), False)
        self.assertIs(machine.shows(("ahead", 0, 1)), False)
        machine.try_all([do(1), do(0), send(1, 0)])
        self.assertIs(machine.shows(("acts",)), True)
        self.assertIs(machine.shows(("ahead", 0, 1)), True)
        machine.undo()
        self.assertIs(machine.shows(("acts",)), False)
        self.assertIs(machine.shows(("ahead", 0, 1)), False)
        self.assertEqual(len(machine), 2402)
