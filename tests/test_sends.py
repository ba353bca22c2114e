"""Point 10: which cells one send takes, and what becomes of them."""

import unittest

from heldwrites.machine import possible_steps, state_after
from samples import chain_of, do, held_after, memory_after, put, rule_of, send, write


def sends_after(rule, program, run):
    return [step for step in possible_steps(rule, program, run) if step[0] == "send"]


def rows_up_to(many):
    return [do(row) for row in range(1, many)] + [do(-1)]


class Whole(unittest.TestCase):
    def test_all_marked_offsets_and_no_fewer(self):
        rule = rule_of(width=3, lines=1)
        program = chain_of(write(2), write(0), write(1))
        self.assertEqual(sends_after(rule, program, []), [])
        self.assertEqual(sends_after(rule, program, [do(1)]), [send(0, 2)])
        self.assertEqual(sends_after(rule, program, [do(1), do(2)]), [send(0, 0, 2)])
        self.assertEqual(sends_after(rule, program, rows_up_to(3)), [send(0, 0, 1, 2)])

    def test_the_cells_go_to_their_places_and_the_line_closes(self):
        rule = rule_of(width=3)
        program = chain_of(write(5), put(4), write(3))
        run = rows_up_to(3) + [send(1, 0, 2)]
        self.assertEqual(state_after(rule, program, run), (-1, 3, (0, 0, 0, 3, 2, 1), (), ()))

    def test_other_lines_stay(self):
        rule = rule_of(lines=3, room=3)
        program = chain_of(write(0), write(1), write(2))
        self.assertEqual(sends_after(rule, program, rows_up_to(3)), [send(0, 0), send(1, 0), send(2, 0)])
        run = rows_up_to(3) + [send(1, 0)]
        self.assertEqual(held_after(rule, program, run), ((0, ((1, True),)), (2, ((3, True),))))
        self.assertEqual(memory_after(rule, program, run), (0, 2, 0))

    def test_a_closed_line_opens_with_empty_cells(self):
        rule = rule_of(width=2, lines=1)
        run = [do(1), send(0, 0), do(-1)]
        self.assertEqual(held_after(rule, chain_of(write(0), write(1)), run), ((0, (None, (2, True))),))


class Parts(unittest.TestCase):
    def test_each_choice_of_marked_offsets_in_order(self):
        rule = rule_of(width=3, lines=1, sends="parts")
        program = chain_of(write(0), write(1), write(2))
        self.assertEqual(sends_after(rule, program, rows_up_to(3)), [
            send(0, 0), send(0, 0, 1), send(0, 0, 1, 2), send(0, 0, 2), send(0, 1), send(0, 1, 2), send(0, 2),
        ])

    def test_marked_offsets_alone(self):
        rule = rule_of(width=3, lines=1, sends="parts")
        self.assertEqual(sends_after(rule, chain_of(write(1)), [do(-1)]), [send(0, 1)])
        self.assertEqual(
            sends_after(rule, chain_of(write(2), write(0)), rows_up_to(2)), [send(0, 0), send(0, 0, 2), send(0, 2)],
        )

    def test_the_cells_become_empty_and_the_line_closes_with_the_last(self):
        rule = rule_of(width=3, lines=1, sends="parts")
        program = chain_of(write(0), write(1), write(2))
        run = rows_up_to(3) + [send(0, 0, 2)]
        self.assertEqual(state_after(rule, program, run), (-1, 3, (1, 0, 3), ((0, (None, (2, True), None)),), ()))
        self.assertEqual(sends_after(rule, program, run), [send(0, 1)])
        run = run + [send(0, 1)]
        self.assertEqual(state_after(rule, program, run), (-1, 3, (1, 2, 3), (), ()))

    def test_a_cell_that_was_sent_can_be_written_again(self):
        rule = rule_of(width=2, lines=1, sends="parts")
        program = chain_of(write(0), write(1), write(0))
        run = [do(1), do(2), send(0, 0), do(-1)]
        self.assertEqual(state_after(rule, program, run), (-1, 3, (1, 0), ((0, ((3, True), (2, True))),), ()))


class Filled(unittest.TestCase):
    def test_all_offsets_of_the_line(self):
        for width in (1, 2, 3):
            rule = rule_of(width=width, sends="filled")
            program = chain_of(write(width))
            self.assertEqual(sends_after(rule, program, [do(-1)]), [("send", 1, tuple(range(width)))])

    def test_cells_that_are_not_marked_are_sent_too_and_the_line_closes(self):
        rule = rule_of(width=3, sends="filled")
        program = chain_of(put(3), write(4), put(3), put(5), put(0))
        run = rows_up_to(5)
        self.assertEqual(memory_after(rule, program, run), (5, 0, 0, 3, 0, 4))
        self.assertEqual(
            state_after(rule, program, run + [send(1, 0, 1, 2)]), (-1, 5, (5, 0, 0, 1, 2, 0), (), ()),
        )

    def test_the_line_takes_memory_again_when_it_is_opened_again(self):
        rule = rule_of(width=2, lines=1, sends="filled")
        program = chain_of(write(0), put(1), write(0))
        run = [do(1), send(0, 0, 1), do(2), do(-1)]
        self.assertEqual(held_after(rule, program, run), ((0, ((3, True), (2, False))),))


class TheExample(unittest.TestCase):
    """Point 43, as far as it speaks of memory and of what waits."""

    program = chain_of(write(0), write(1))

    def test_the_later_byte_is_seen_first(self):
        rule = rule_of(kinds=((0,),))
        run = [do(1), do(-1), send(1, 0)]
        self.assertEqual(state_after(rule, self.program, run), (-1, 2, (0, 2), ((0, ((1, True),)),), ()))

    def test_with_the_fence_the_second_row_waits(self):
        rule = rule_of(kinds=((0,),))
        program = chain_of(write(0), write(1), fences={1: (0,)})
        self.assertEqual(possible_steps(rule, program, [do(1)]), [send(0, 0)])
        self.assertEqual(possible_steps(rule, program, [do(1), send(0, 0)]), [do(-1)])

    def test_with_room_for_one_the_second_line_waits(self):
        rule = rule_of(room=1, kinds=((0,),))
        self.assertEqual(possible_steps(rule, self.program, [do(1)]), [send(0, 0)])
