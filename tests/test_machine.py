"""Points 7 to 9 and 11: the state, the row that is done, the acts."""

import unittest

from heldwrites.machine import possible_steps, state_after, told_by
from samples import PASS, acts_after, chain_of, do, held_after, memory_after, put, read, rule_of, send, write

SENDS = ("whole", "parts", "filled")
LOOKS = ("into", "past", "first")


def dos_after(rule, program, run):
    return [step for step in possible_steps(rule, program, run) if step[0] == "do"]


class TheBeginning(unittest.TestCase):
    def test_the_first_state(self):
        for width in (1, 2, 3):
            for lines in (1, 2, 3):
                for sends in SENDS:
                    rule = rule_of(width=width, lines=lines, sends=sends)
                    state = state_after(rule, chain_of(write(0)), [])
                    self.assertEqual(state, (0, 0, (0,) * (width * lines), (), ()))

    def test_the_kinds_of_values(self):
        rule = rule_of(width=2, sends="filled", acting=(0,))
        state = state_after(rule, chain_of(put(0), write(1)), [do(1), do(-1)])
        self.assertEqual(state, (-1, 2, (1, 0, 0, 0), ((0, ((1, False), (2, True))),), (1,)))
        self.assertIs(type(state), tuple)
        self.assertEqual([type(part) for part in state], [int, int, tuple, tuple, tuple])
        line, cells = state[3][0]
        self.assertEqual([type(line), type(cells), type(cells[0])], [int, tuple, tuple])
        self.assertIs(cells[0][1], False)
        self.assertIs(cells[1][1], True)


class GoingOn(unittest.TestCase):
    def test_to_each_of_the_nexts_alone(self):
        program = ((PASS, (), (0, 2)), (PASS, (), ()), (PASS, (), (1,)))
        rule = rule_of()
        self.assertEqual(possible_steps(rule, program, []), [do(0), do(2)])
        self.assertEqual(state_after(rule, program, [do(0)])[0], 0)
        self.assertEqual(state_after(rule, program, [do(2)])[0], 2)
        self.assertEqual(possible_steps(rule, program, [do(2)]), [do(1)])

    def test_to_minus_one_where_there_are_no_nexts(self):
        program = chain_of(PASS)
        self.assertEqual(possible_steps(rule_of(), program, []), [do(-1)])
        self.assertEqual(state_after(rule_of(), program, [do(-1)]), (-1, 0, (0, 0), (), ()))

    def test_a_program_that_has_stopped_sends_but_does_nothing(self):
        program = chain_of(write(0))
        self.assertEqual(possible_steps(rule_of(), program, [do(-1)]), [send(0, 0)])
        self.assertEqual(possible_steps(rule_of(), program, [do(-1), send(0, 0)]), [])

    def test_a_row_may_be_done_again(self):
        program = ((write(0), (), (0,)),)
        self.assertEqual(state_after(rule_of(), program, [do(0)] * 3), (0, 3, (0, 0), ((0, ((3, True),)),), ()))


class Pass(unittest.TestCase):
    def test_it_changes_the_row_alone(self):
        for sends in SENDS:
            rule = rule_of(sends=sends, acting=(0, 1))
            before = state_after(rule, chain_of(write(0), PASS, PASS), [do(1)])
            after = state_after(rule, chain_of(write(0), PASS, PASS), [do(1), do(2)])
            self.assertEqual(after, (2,) + before[1:])


class Write(unittest.TestCase):
    def test_an_open_line_has_empty_cells_but_the_one(self):
        for sends in ("whole", "parts"):
            rule = rule_of(width=3, sends=sends)
            self.assertEqual(held_after(rule, chain_of(write(4)), [do(-1)]), ((1, (None, (1, True), None)),))

    def test_filled_takes_the_other_cells_from_memory(self):
        rule = rule_of(width=3, sends="filled")
        program = chain_of(put(3), put(0), put(5), put(4), write(4))
        run = [do(1), do(2), do(3), do(4), do(-1)]
        self.assertEqual(held_after(rule, program, run), ((1, ((1, False), (5, True), (3, False))),))
        self.assertEqual(memory_after(rule, program, run), (2, 0, 0, 1, 4, 3))

    def test_filled_keeps_what_the_cells_hold_when_it_is_open(self):
        rule = rule_of(width=3, lines=1, sends="filled")
        program = chain_of(write(0), put(1), put(2), write(2))
        run = [do(1), do(2), do(3), do(-1)]
        self.assertEqual(held_after(rule, program, run), ((0, ((1, True), (0, False), (4, True))),))

    def test_a_second_write_takes_the_cell(self):
        for sends in SENDS:
            rule = rule_of(width=1, sends=sends)
            self.assertEqual(held_after(rule, chain_of(write(0), write(0)), [do(1), do(-1)]), ((0, ((2, True),)),))

    def test_memory_and_acts_stay(self):
        for sends in SENDS:
            rule = rule_of(width=2, sends=sends, acting=(0, 1))
            state = state_after(rule, chain_of(write(0), write(1)), [do(1), do(-1)])
            self.assertEqual((state[1], state[2], state[4]), (2, (0, 0, 0, 0), ()))

    def test_the_open_lines_stand_by_number(self):
        rule = rule_of(lines=3, room=3)
        program = chain_of(write(2), write(0), write(1))
        held = held_after(rule, program, [do(1), do(2), do(-1)])
        self.assertEqual(held, ((0, ((2, True),)), (1, ((3, True),)), (2, ((1, True),))))

    def test_a_line_waits_for_room(self):
        for sends in SENDS:
            for room in (1, 2):
                rule = rule_of(lines=3, room=room, sends=sends)
                program = chain_of(*[write(place) for place in range(room + 1)])
                run = [do(row + 1) for row in range(room)]
                self.assertEqual(len(held_after(rule, program, run)), room)
                self.assertEqual(dos_after(rule, program, run), [])
                self.assertEqual(dos_after(rule, program, run[:-1]), [run[-1]])
                self.assertEqual(dos_after(rule, program, run + [send(0, 0)]), [do(-1)])

    def test_an_open_line_needs_no_room(self):
        rule = rule_of(width=2, room=1)
        program = chain_of(write(0), write(1), write(0))
        self.assertEqual(state_after(rule, program, [do(1), do(2), do(-1)])[3], ((0, ((3, True), (2, True))),))

    def test_others_than_writes_need_no_room(self):
        rule = rule_of(room=1)
        for op in (put(1), read(1), PASS, put(0), read(0)):
            self.assertEqual(dos_after(rule, chain_of(write(0), op), [do(1)]), [do(-1)])


class Put(unittest.TestCase):
    def test_memory_at_once_and_held_stays(self):
        for sends in SENDS:
            for look in LOOKS:
                rule = rule_of(width=2, sends=sends, look=look)
                program = chain_of(write(0), put(0), put(1), put(3))
                held = held_after(rule, program, [do(1)])
                state = state_after(rule, program, [do(1), do(2), do(3), do(-1)])
                self.assertEqual(state, (-1, 4, (2, 3, 0, 4), held, ()))

    def test_an_older_cell_is_sent_over_it(self):
        run = [do(1), do(-1), send(0, 0)]
        self.assertEqual(memory_after(rule_of(), chain_of(write(0), put(0)), run), (1, 0))

    def test_a_stale_cell_of_a_filled_line_is_sent_over_it(self):
        rule = rule_of(width=2, lines=1, sends="filled")
        run = [do(1), do(-1), send(0, 0, 1)]
        self.assertEqual(memory_after(rule, chain_of(write(0), put(1)), run), (1, 0))


class Read(unittest.TestCase):
    def test_into_tells_the_cell(self):
        for sends in SENDS:
            rule = rule_of(width=2, sends=sends, look="into")
            program = chain_of(write(0), read(0))
            self.assertEqual(told_by(rule, program, [do(1), do(-1)]), [(1, 0, 1)])

    def test_into_tells_memory_where_the_cell_is_empty(self):
        for sends in ("whole", "parts"):
            rule = rule_of(width=2, sends=sends, look="into")
            program = chain_of(put(1), write(0), read(1))
            self.assertEqual(told_by(rule, program, [do(1), do(2), do(-1)]), [(2, 1, 1)])

    def test_into_tells_a_cell_that_is_not_marked(self):
        rule = rule_of(width=2, sends="filled", look="into")
        program = chain_of(put(1), write(0), put(1), read(1))
        self.assertEqual(told_by(rule, program, [do(1), do(2), do(3), do(-1)]), [(3, 1, 1)])

    def test_into_tells_memory_where_the_line_is_not_open(self):
        rule = rule_of(look="into")
        program = chain_of(write(0), read(1), read(0))
        run = [do(1), do(2), send(0, 0), do(-1)]
        self.assertEqual(told_by(rule, program, run), [(1, 1, 0), (2, 0, 1)])

    def test_past_tells_memory(self):
        for sends in SENDS:
            rule = rule_of(width=2, sends=sends, look="past")
            program = chain_of(put(0), write(0), read(0), read(0))
            run = [do(1), do(2), do(3), ("send", 0, (0, 1) if sends == "filled" else (0,)), do(-1)]
            self.assertEqual(told_by(rule, program, run), [(2, 0, 1), (3, 0, 2)])

    def test_first_waits_for_the_line_of_the_place(self):
        for sends in SENDS:
            rule = rule_of(width=2, sends=sends, look="first")
            whole = send(0, 0, 1) if sends == "filled" else send(0, 0)
            for place in (0, 1):
                program = chain_of(write(0), read(place))
                self.assertEqual(dos_after(rule, program, [do(1)]), [])
                self.assertEqual(dos_after(rule, program, [do(1), whole]), [do(-1)])
                self.assertEqual(told_by(rule, program, [do(1), whole, do(-1)]), [(1, place, 1 - place)])
            self.assertEqual(dos_after(rule, chain_of(write(0), read(2)), [do(1)]), [do(-1)])

    def test_other_looks_do_not_wait(self):
        for look in ("into", "past"):
            self.assertEqual(dos_after(rule_of(look=look), chain_of(write(0), read(0)), [do(1)]), [do(-1)])

    def test_first_bars_reads_alone(self):
        for op in (write(0), put(0), PASS):
            self.assertEqual(dos_after(rule_of(look="first"), chain_of(write(0), op), [do(1)]), [do(-1)])

    def test_a_read_changes_the_row_alone(self):
        for look in ("into", "past"):
            program = chain_of(write(0), read(0), PASS)
            rule = rule_of(look=look, acting=(0,))
            self.assertEqual(state_after(rule, program, [do(1), do(2)]), (2, 1, (0, 0), ((0, ((1, True),)),), ()))


class Fences(unittest.TestCase):
    def test_each_operation_waits_for_the_lines_of_its_kinds(self):
        rule = rule_of(lines=3, kinds=((1,), (0, 2)))
        for op in (write(0), put(0), read(0), PASS):
            for line, fences, waits in (
                (0, (0,), False), (1, (0,), True), (2, (0,), False),
                (0, (1,), True), (1, (1,), False), (2, (1,), True),
                (0, (0, 1), True), (1, (0, 1), True), (2, (0, 1), True), (1, (), False),
            ):
                program = chain_of(write(line), op, fences={1: fences})
                with self.subTest(op=op, line=line, fences=fences):
                    self.assertEqual(dos_after(rule, program, [do(1)]), [] if waits else [do(-1)])
                    self.assertEqual(dos_after(rule, program, [do(1), send(line, 0)]), [do(-1)])

    def test_a_line_sent_in_part_is_open_still(self):
        rule = rule_of(width=2, sends="parts", kinds=((0,),))
        program = chain_of(write(0), write(1), PASS, fences={2: (0,)})
        run = [do(1), do(2), send(0, 1)]
        self.assertEqual(dos_after(rule, program, run), [])
        self.assertEqual(dos_after(rule, program, run + [send(0, 0)]), [do(-1)])


class Eager(unittest.TestCase):
    def test_no_row_is_done_while_a_line_is_full(self):
        for sends in SENDS:
            for op in (write(0), write(2), put(0), put(2), read(2), PASS):
                program = chain_of(write(0), write(1), op)
                for eager in (True, False):
                    rule = rule_of(width=2, sends=sends, eager=eager)
                    with self.subTest(sends=sends, op=op, eager=eager):
                        self.assertEqual(dos_after(rule, program, [do(1)]), [do(2)])
                        self.assertEqual(dos_after(rule, program, [do(1), do(2)]), [] if eager else [do(-1)])
                        self.assertEqual(dos_after(rule, program, [do(1), do(2), send(0, 0, 1)]), [do(-1)])

    def test_any_full_line_counts(self):
        rule = rule_of(width=2, lines=3, room=3, eager=True)
        program = chain_of(write(0), write(4), write(5), PASS)
        self.assertEqual(dos_after(rule, program, [do(1), do(2), do(3)]), [])
        self.assertEqual(dos_after(rule, program, [do(1), do(2), do(3), send(0, 0)]), [])
        self.assertEqual(dos_after(rule, program, [do(1), do(2), do(3), send(2, 0, 1)]), [do(-1)])

    def test_cells_that_are_not_marked_leave_a_line_that_is_not_full(self):
        rule = rule_of(width=2, lines=1, sends="filled", eager=True)
        self.assertEqual(dos_after(rule, chain_of(write(0), PASS), [do(1)]), [do(-1)])
        self.assertEqual(dos_after(rule, chain_of(put(1), write(0), PASS), [do(1), do(2)]), [do(-1)])

    def test_a_part_that_was_sent_leaves_a_line_that_is_not_full(self):
        rule = rule_of(width=2, sends="parts", eager=True)
        program = chain_of(write(0), write(1), PASS)
        self.assertEqual(dos_after(rule, program, [do(1), do(2), send(0, 0)]), [do(-1)])

    def test_a_line_of_one_place_is_full_at_once(self):
        rule = rule_of(eager=True)
        self.assertEqual(possible_steps(rule, chain_of(write(0), PASS), [do(1)]), [send(0, 0)])


class Acts(unittest.TestCase):
    def test_puts_at_acting_places(self):
        program = chain_of(put(1), put(0), put(2), put(1))
        run = [do(1), do(2), do(3), do(-1)]
        self.assertEqual(acts_after(rule_of(lines=3, acting=(1,)), program, run), (1, 4))
        self.assertEqual(acts_after(rule_of(lines=3, acting=(1, 2)), program, run), (1, 3, 4))
        self.assertEqual(acts_after(rule_of(lines=3), program, run), ())

    def test_sends_in_the_order_in_which_they_come(self):
        rule = rule_of(acting=(0, 1))
        program = chain_of(write(0), write(1))
        run = [do(1), do(-1), send(1, 0), send(0, 0)]
        self.assertEqual(acts_after(rule, program, run[:2]), ())
        self.assertEqual(acts_after(rule, program, run), (2, 1))

    def test_one_send_in_the_order_of_the_places(self):
        rule = rule_of(width=3, acting=(3, 5))
        program = chain_of(write(5), write(4), write(3))
        run = [do(1), do(2), do(-1), send(1, 0, 1, 2)]
        self.assertEqual(acts_after(rule, program, run), (3, 1))

    def test_parts_act_when_they_are_sent(self):
        rule = rule_of(width=2, lines=1, sends="parts", acting=(0, 1))
        program = chain_of(write(0), write(1))
        run = [do(1), do(-1), send(0, 1), send(0, 0)]
        self.assertEqual(acts_after(rule, program, run[:3]), (2,))
        self.assertEqual(acts_after(rule, program, run), (2, 1))

    def test_a_filled_line_acts_with_cells_that_are_not_marked(self):
        rule = rule_of(width=3, lines=1, sends="filled", acting=(0, 2))
        program = chain_of(put(0), write(1))
        self.assertEqual(acts_after(rule, program, [do(1), do(-1), send(0, 0, 1, 2)]), (1, 1, 0))
