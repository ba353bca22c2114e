"""Points 33 to 36: long programs, their numbers, and what is asked of a write, a pair or all reads."""

import itertools
import unittest

from heldwrites.errors import BadIndex, BadLong, BadRule
from heldwrites.longer import first_behind, first_elder, long_ahead, long_length, long_operation
from samples import OTHER_THINGS, PASS, put, read, rule_of, write

MOST = 10 ** 40
RULE = rule_of(width=2, lines=2, kinds=((0,), (1,), (0, 1)))
FUNCTIONS = [
    (long_length, ()), (long_operation, (0,)), (first_behind, (0,)), (long_ahead, (0, 1)), (first_elder, ()),
]


def word(*ops, fences=None):
    """The word of these operations, with fences by offset."""
    fences = fences or {}
    return tuple((op, fences.get(offset, ())) for offset, op in enumerate(ops))


def once(*ops, fences=None):
    """The long program that does these operations once."""
    return ((word(*ops, fences=fences), 1),)


def times(many, *ops, fences=None):
    return ((word(*ops, fences=fences), many),)


GOOD = once(write(0), write(2))


class Lengths(unittest.TestCase):
    def test_words_of_one_to_eight_operations(self):
        for many in range(1, 9):
            for repeated in (1, 2, 7, MOST - 1, MOST):
                self.assertEqual(long_length(RULE, times(repeated, *[PASS] * many)), many * repeated)

    def test_one_to_eight_pieces(self):
        for pieces in range(1, 9):
            one = (word(write(0), PASS, read(3)), MOST)
            self.assertEqual(long_length(RULE, (one,) * pieces), 3 * MOST * pieces)
        mixed = ((word(PASS), 1), (word(PASS, PASS), MOST), (word(PASS, PASS, PASS), 2))
        self.assertEqual(long_length(RULE, mixed), 7 + 2 * MOST)
        self.assertIs(type(long_length(RULE, mixed)), int)

    def test_the_most_of_all(self):
        self.assertEqual(long_length(RULE, ((word(*[write(0)] * 8), MOST),) * 8), 64 * MOST)


class Operations(unittest.TestCase):
    program = (
        (word(write(0), PASS, fences={1: (0, 2)}), MOST), (word(read(1)), 1),
        (word(put(2), write(3), read(0), fences={2: (1,)}), MOST),
    )
    second, third = 2 * MOST, 2 * MOST + 1
    end = 2 * MOST + 1 + 3 * MOST

    def test_the_first_and_the_last_of_each_piece(self):
        for index, entry in (
            (0, (write(0), ())), (1, (PASS, (0, 2))), (self.second - 2, (write(0), ())),
            (self.second - 1, (PASS, (0, 2))), (self.second, (read(1), ())), (self.third, (put(2), ())),
            (self.third + 1, (write(3), ())), (self.third + 2, (read(0), (1,))), (self.third + 3, (put(2), ())),
            (self.end - 3, (put(2), ())), (self.end - 2, (write(3), ())), (self.end - 1, (read(0), (1,))),
        ):
            self.assertEqual(long_operation(RULE, self.program, index), entry)
            self.assertIs(type(long_operation(RULE, self.program, index)), tuple)

    def test_each_of_a_small_one(self):
        program = ((word(write(0), put(1)), 3), (word(PASS), 2), (word(read(0), PASS, read(1)), 2))
        ops = [write(0), put(1)] * 3 + [PASS] * 2 + [read(0), PASS, read(1)] * 2
        told = [long_operation(RULE, program, index) for index in range(long_length(RULE, program))]
        self.assertEqual(told, [(op, ()) for op in ops])

    def test_objects_that_are_no_number(self):
        for thing in (-1, -2, self.end, self.end + 1, -self.end, 10 ** 59, True, False, "0", (0,), [0], None, b"0"):
            with self.assertRaises(BadIndex):
                long_operation(RULE, self.program, thing)
        for thing in OTHER_THINGS:
            if type(thing) is not int:
                with self.assertRaises(BadIndex):
                    long_operation(RULE, self.program, thing)
        with self.assertRaises(BadIndex):
            long_operation(RULE, once(PASS), 1)


class BadLongs(unittest.TestCase):
    def assert_bad(self, thing):
        for function, numbers in FUNCTIONS:
            with self.assertRaises(BadLong) as caught:
                function(RULE, thing, *numbers)
            self.assertIs(type(caught.exception), BadLong)

    def test_pieces(self):
        piece = GOOD[0]
        for thing in (
            (), (piece,) * 9, list(GOOD), [piece], (list(piece),), (piece, None), (piece, list(piece)), (piece[:1],),
            ((*piece, 1),), piece, piece[0], ((),), ((piece[0], 1, 1),), (piece, (piece,)), {piece: 1}, (1, piece[0]),
        ):
            self.assert_bad(thing)

    def test_words(self):
        entry = (write(0), ())
        for thing in (
            (), (entry,) * 9, [entry], None, "write", (None,), (entry, ()), (entry, list(entry)), (entry, (write(0),)),
            ((write(0), (), ()),), ((write(0), (), (0,)),), (entry, (write(0), (), (1,))), entry, (write(0), write(1)),
            ((["write", 0], ()),), ((("write", 4), ()),), ((("write", -1), ()),), ((("write", True), ()),),
            ((("write",), ()),), ((("pass", 0), ()),), ((("Write", 0), ()),), ((("send", 0), ()),), (((), ()),),
        ):
            self.assert_bad(((thing, 1),))
            self.assert_bad((GOOD[0], (thing, 1)))
            self.assert_bad(((thing, 1), *GOOD))

    def test_fences(self):
        for fences in ((3,), (-1,), (0, 0), (1, 0), [0], (True,), (None,), None, 0, "0", {0}, (0, 3)):
            self.assert_bad((((write(0), ()), (PASS, fences)), 1),)
            self.assert_bad(((((write(0), ()), (PASS, fences)), 1),))
            self.assert_bad(((((write(0), fences),), 1),))
        for fences in ((), (0,), (0, 1, 2), (0, 2)):
            self.assertEqual(long_length(RULE, ((((write(0), fences),), 2),)), 2)

    def test_kinds_that_the_rule_does_not_have(self):
        with self.assertRaises(BadLong):
            long_length(rule_of(), once(PASS, fences={0: (0,)}))
        self.assertEqual(long_length(rule_of(kinds=((0,),)), once(PASS, fences={0: (0,)})), 1)

    def test_times(self):
        for many in (0, -1, MOST + 1, 10 ** 59, True, False, None, "1", (1,), [1]):
            self.assert_bad(((GOOD[0][0], many),))
            self.assert_bad((GOOD[0], (GOOD[0][0], many)))

    def test_any_object(self):
        for thing in OTHER_THINGS:
            self.assert_bad(thing)
            self.assert_bad((thing,))
            self.assert_bad((GOOD[0], thing))
            self.assert_bad(((thing, 1),))
            self.assert_bad((((thing,), 1),))
            if thing != PASS or type(thing) is not tuple:
                self.assert_bad(((((thing, ()),), 1),))
            if type(thing) is not int or thing != 1:
                self.assert_bad(((GOOD[0][0], thing),))
            if thing != () or type(thing) is not tuple:
                self.assert_bad(((((PASS, thing),), 1),))

    def test_a_program_is_none(self):
        self.assert_bad(((write(0), (), (1,)), (PASS, (), ())))
        self.assert_bad((((write(0), (), ()),), 1))

    def test_behind_a_bad_rule_and_ahead_of_a_bad_index(self):
        for function, numbers in FUNCTIONS:
            for thing in (GOOD, None, ()):
                with self.assertRaises(BadRule):
                    function(RULE[:7], thing, *[None for _ in numbers])
            with self.assertRaises(BadLong):
                function(RULE, None, *[None for _ in numbers])


class BadIndexes(unittest.TestCase):
    program = once(write(0), put(2), read(0), PASS, write(1))

    def test_of_a_write_first(self):
        for thing in (1, 2, 3, 5, 6, -1, -5, True, False, None, "0", (0,), [0], 10 ** 59):
            for other in (4, 9, None):
                with self.assertRaises(BadIndex):
                    long_ahead(RULE, self.program, thing, other)
            with self.assertRaises(BadIndex):
                first_behind(RULE, self.program, thing)

    def test_of_a_later_write_or_put(self):
        for thing in (0, 2, 3, 5, -1, True, False, None, "1", (1,), [1], 10 ** 59):
            with self.assertRaises(BadIndex):
                long_ahead(RULE, self.program, 0, thing)
        for thing in (0, 1, 4):
            with self.assertRaises(BadIndex):
                long_ahead(RULE, self.program, 4, thing)
        self.assertIs(long_ahead(RULE, self.program, 0, 1), True)
        self.assertIs(long_ahead(RULE, self.program, 0, 4), False)

    def test_numbers_far_behind(self):
        program = ((word(write(0), read(0), put(1)), MOST),)
        last = 3 * MOST - 1
        for index in (1, 2, last, last - 1, last + 1):
            with self.assertRaises(BadIndex):
                first_behind(RULE, program, index)
        self.assertIsNone(first_behind(RULE, program, last - 2))
        for other in (last - 1, last + 1, last - 2, 0, 3):
            with self.assertRaises(BadIndex):
                long_ahead(RULE, program, last - 2, other)
        self.assertIs(long_ahead(RULE, program, last - 2, last), True)
        self.assertIs(long_ahead(RULE, program, 0, last), True)

    def test_any_object(self):
        for thing in OTHER_THINGS:
            if type(thing) is not int:
                for function, numbers in ((first_behind, (thing,)), (long_ahead, (thing, 1)), (long_ahead, (0, thing))):
                    with self.assertRaises(BadIndex):
                        function(RULE, self.program, *numbers)


class FirstBehind(unittest.TestCase):
    def test_a_fence_of_the_line(self):
        for fence, first in ((0, 3), (1, None), (2, 3)):
            program = once(write(1), PASS, write(2), PASS, PASS, fences={3: (fence,)})
            self.assertEqual(first_behind(RULE, program, 0), first)
        program = once(write(1), write(2), PASS, fences={0: (0,), 2: (1,)})
        self.assertIsNone(first_behind(RULE, program, 0))
        self.assertEqual(first_behind(RULE, program, 1), 2)

    def test_a_read_by_first(self):
        program = once(write(0), read(2), read(1), read(0))
        for look, first in (("first", 2), ("into", None), ("past", None)):
            rule = rule_of(width=2, lines=2, look=look)
            self.assertEqual(first_behind(rule, program, 0), first)

    def test_a_write_to_another_line_without_room(self):
        program = once(write(0), write(1), put(2), read(2), write(2), write(0))
        for sends in ("whole", "parts", "filled"):
            for room, first in ((1, 4), (2, None), (3, None)):
                rule = rule_of(width=2, lines=3, room=room, sends=sends)
                self.assertEqual(first_behind(rule, program, 0), first)
                self.assertEqual(first_behind(rule, program, 1), first)

    def test_a_full_line_by_an_eager_rule(self):
        program = once(write(0), write(0), read(0), write(1), PASS, write(0))
        for sends, first in (("whole", 4), ("filled", 4), ("parts", None)):
            rule = rule_of(width=2, sends=sends, eager=True)
            self.assertEqual(first_behind(rule, program, 0), first)
            # The first write may have been sent before, so that the second one finds its line closed.
            self.assertEqual(first_behind(rule, program, 1), first)
            self.assertIsNone(first_behind(rule, program, 3))
            self.assertIsNone(first_behind(rule_of(width=2, sends=sends), program, 0))

    def test_a_line_of_one_place_is_full_at_once(self):
        for sends in ("whole", "parts", "filled"):
            rule = rule_of(sends=sends, eager=True)
            self.assertEqual(first_behind(rule, once(PASS, write(0), PASS, PASS), 1), 2)
            self.assertIsNone(first_behind(rule, once(PASS, write(0)), 1))

    def test_a_line_of_three_places(self):
        program = once(write(4), write(3), put(5), write(0), write(3), write(5), PASS, PASS)
        for sends, first in (("whole", 6), ("filled", 6), ("parts", None)):
            rule = rule_of(width=3, sends=sends, eager=True)
            self.assertEqual(first_behind(rule, program, 0), first)
            self.assertIsNone(first_behind(rule, program, 3))

    def test_full_by_the_last_operation(self):
        self.assertIsNone(first_behind(rule_of(width=2, eager=True), once(write(0), write(1)), 0))

    def test_a_put_at_the_place(self):
        for sends in ("whole", "parts", "filled"):
            rule = rule_of(width=2, sends=sends)
            self.assertEqual(first_behind(rule, once(write(0), PASS, put(0), PASS, PASS), 0), 3)
            self.assertIsNone(first_behind(rule, once(write(0), PASS, put(0)), 0))
            self.assertIsNone(first_behind(rule, once(write(0), put(1), put(2), PASS), 0))

    def test_a_later_write_at_the_place_keeps_the_memory(self):
        for sends in ("whole", "parts", "filled"):
            self.assertIsNone(first_behind(rule_of(width=2, sends=sends), once(write(0), write(0), read(0), PASS), 0))

    def test_what_comes_first_counts(self):
        rule = rule_of(width=2, lines=2, room=1, look="first", kinds=((0,),))
        for ops, first in (
            ([put(0), PASS, read(0)], 2), ([put(0), read(0)], 2), ([read(0), put(0), PASS], 1), ([write(2), put(0)], 1),
            ([PASS, write(3), read(1)], 2), ([PASS, read(1), write(3)], 2),
        ):
            self.assertEqual(first_behind(rule, once(write(0), *ops), 0), first)

    def test_nothing_behind_the_last_operation(self):
        for program in (once(write(0)), once(PASS, write(0)), times(MOST, write(0))):
            self.assertIsNone(first_behind(rule_of(room=1), program, long_length(RULE, program) - 1))

    def test_the_operation_of_the_next_time(self):
        rule = rule_of(width=2, lines=2, kinds=((0,),))
        program = times(MOST, PASS, write(0), PASS, fences={0: (0,)})
        for index in (1, 4, 3 * MOST - 5):
            self.assertEqual(first_behind(rule, program, index), index + 2)
        self.assertIsNone(first_behind(rule, program, 3 * MOST - 2))
        self.assertEqual(first_behind(rule, times(MOST, put(0), write(0)), 1), 3)
        self.assertIsNone(first_behind(rule, times(2, put(0), write(0)), 3))

    def test_a_line_that_fills_with_the_next_time(self):
        rule = rule_of(width=2, eager=True)
        program = times(MOST, write(1), write(0))
        for index in (0, 2, 2 * MOST - 4):
            self.assertEqual(first_behind(rule, program, index), index + 2)
            self.assertEqual(first_behind(rule, program, index + 1), index + 3)
        for index in (2 * MOST - 2, 2 * MOST - 1):
            self.assertIsNone(first_behind(rule, program, index))
        program = times(3, write(0)) + times(5, write(1), PASS) + times(MOST, PASS)
        self.assertEqual([first_behind(rule, program, index) for index in range(3)], [4, 4, 4])

    def test_far_behind(self):
        rule = rule_of(width=2, lines=2, room=1)
        program = times(MOST, write(0), write(1)) + times(MOST, PASS, read(0)) + times(MOST, PASS, write(2))
        for index in (0, 1, MOST, 2 * MOST - 1):
            self.assertEqual(first_behind(rule, program, index), 4 * MOST + 1)
        self.assertIsNone(first_behind(rule, program, 6 * MOST - 1))

    def test_a_word_of_eight_from_the_middle(self):
        rule = rule_of(width=2, lines=3, room=1, kinds=((0,),))
        ops = [PASS, PASS, read(1), write(0), PASS, read(0), PASS, PASS]
        for offset in range(8):
            for many in (2, MOST):
                program = times(many, *ops, fences={offset: (0,)})
                expected = offset if offset > 3 else offset + 8
                self.assertEqual(first_behind(rule, program, 3), expected)
                last = offset + 8 * many - 8 if offset > 3 else None
                self.assertEqual(first_behind(rule, program, 8 * many - 5), last)


class LongAhead(unittest.TestCase):
    def test_equal_places(self):
        for later in (write(0), put(0)):
            for sends in ("whole", "parts", "filled"):
                self.assertIs(long_ahead(rule_of(width=2, sends=sends), once(write(0), later), 0, 1), False)

    def test_places_of_one_line(self):
        for sends, shown in (("whole", False), ("parts", True), ("filled", False)):
            rule = rule_of(width=2, sends=sends)
            self.assertIs(long_ahead(rule, once(write(0), write(1)), 0, 1), shown)
            self.assertIs(long_ahead(rule, once(write(1), PASS, write(0)), 0, 2), shown)
            self.assertIs(long_ahead(rule, once(write(0), put(1)), 0, 1), True)

    def test_places_of_two_lines(self):
        for sends in ("whole", "parts", "filled"):
            for room in (1, 2, 3):
                rule = rule_of(width=2, room=room, sends=sends)
                self.assertIs(long_ahead(rule, once(write(0), write(2)), 0, 1), room > 1)
                self.assertIs(long_ahead(rule, once(write(0), put(2)), 0, 1), True)

    def test_a_later_write_that_has_to_wait(self):
        rule = rule_of(width=2, kinds=((0,), (1,)))
        for fence, shown in ((0, False), (1, True)):
            for later in (write(2), put(2), put(1)):
                self.assertIs(long_ahead(rule, once(write(0), later, fences={1: (fence,)}), 0, 1), shown)
                self.assertIs(long_ahead(rule, once(write(0), PASS, later, fences={1: (fence,)}), 0, 2), shown)

    def test_a_put_at_the_place_between(self):
        for later in (write(2), put(2), put(1)):
            self.assertIs(long_ahead(rule_of(width=2), once(write(0), put(0), later), 0, 2), False)
            self.assertIs(long_ahead(rule_of(width=2), once(write(0), write(0), later), 0, 2), True)

    def test_an_eager_rule(self):
        for sends, shown in (("whole", False), ("parts", True), ("filled", False)):
            rule = rule_of(width=2, lines=3, sends=sends, eager=True)
            program = once(write(0), write(2), write(1), write(4), put(4))
            self.assertIs(long_ahead(rule, program, 0, 1), True)
            self.assertIs(long_ahead(rule, program, 0, 2), shown)
            self.assertIs(long_ahead(rule, program, 0, 3), shown)
            self.assertIs(long_ahead(rule, program, 0, 4), shown)
            self.assertIs(long_ahead(rule, program, 1, 4), True)
        self.assertIs(long_ahead(rule_of(eager=True), once(write(0), put(1)), 0, 1), False)

    def test_far_behind(self):
        program = times(MOST, write(0), PASS) + times(MOST, put(2), write(3))
        later = (2 * MOST, 2 * MOST + 1, 4 * MOST - 2, 4 * MOST - 1)
        for index, other in itertools.product((0, 2, 2 * MOST - 2), later):
            self.assertIs(long_ahead(rule_of(width=2), program, index, other), True)
            self.assertIs(long_ahead(rule_of(width=2, room=1), program, index, other), other == 2 * MOST)
        self.assertIs(long_ahead(rule_of(width=2), program, 0, 2 * MOST - 2), False)


class FirstElder(unittest.TestCase):
    def test_a_read_behind_a_write_by_each_look(self):
        for look, first in (("past", 2), ("into", None), ("first", None)):
            for sends in ("whole", "parts", "filled"):
                rule = rule_of(width=2, sends=sends, look=look)
                self.assertEqual(first_elder(rule, once(read(0), write(0), read(0), read(0))), first)

    def test_reads_ahead_of_any_write(self):
        for look in ("past", "into", "first"):
            rule = rule_of(width=2, look=look)
            self.assertIsNone(first_elder(rule, times(MOST, read(0), read(1))))
            self.assertIsNone(first_elder(rule, once(read(0), write(1), read(0), put(2), read(0), write(0))))
        self.assertEqual(first_elder(rule_of(look="past"), times(MOST, read(0), write(0))), 2)

    def test_a_put_behind_a_write(self):
        for look in ("past", "into", "first"):
            for sends in ("whole", "parts", "filled"):
                rule = rule_of(width=2, sends=sends, look=look)
                self.assertEqual(first_elder(rule, once(write(0), put(0), PASS, read(1), read(0))), 4)
                self.assertIsNone(first_elder(rule, once(put(0), read(0), PASS, read(1))))
                beside = 3 if sends == "filled" else None
                self.assertEqual(first_elder(rule, once(write(1), PASS, put(0), read(0))), beside)
                self.assertIsNone(first_elder(rule, once(write(2), PASS, put(0), read(0))))

    def test_a_put_behind_a_write_behind_a_put(self):
        for look in ("past", "into", "first"):
            rule = rule_of(look=look)
            self.assertEqual(first_elder(rule, once(write(0), put(0), put(0), read(0))), 3)
            expected = 3 if look == "past" else None
            self.assertEqual(first_elder(rule, once(write(0), put(0), write(0), read(0))), expected)

    def test_fences_between(self):
        for look in ("past", "into", "first"):
            rule = rule_of(width=2, look=look, kinds=((0,), (1,)))
            for fence, offset in itertools.product((0, 1), range(5)):
                program = once(write(0), PASS, put(0), PASS, read(0), fences={offset: (fence,)})
                first = None if fence == 0 and offset in (1, 2) else 4
                self.assertEqual(first_elder(rule, program), first, (look, fence, offset))
            for fence, offset in itertools.product((0, 1), range(4)):
                program = once(write(0), PASS, PASS, read(0), fences={offset: (fence,)})
                first = None if look != "past" or (fence == 0 and offset > 0) else 3
                self.assertEqual(first_elder(rule, program), first, (look, fence, offset))

    def test_a_write_that_is_not_held_without_room(self):
        for look in ("past", "into", "first"):
            rule = rule_of(look=look, room=1)
            self.assertIsNone(first_elder(rule, once(write(0), write(1), put(0), read(0), read(0))))
            first = 2 if look == "past" else None
            self.assertEqual(first_elder(rule, once(write(0), write(1), read(1), read(0))), first)

    def test_an_eager_rule(self):
        for look in ("past", "into", "first"):
            self.assertIsNone(first_elder(rule_of(look=look, eager=True), times(MOST, write(0), put(0), read(0))))
            for sends in ("whole", "parts", "filled"):
                # Filled, the second write may open the line again, with what the first one left in memory.
                rule = rule_of(width=2, sends=sends, look=look, eager=True)
                expected = None if sends == "whole" else 4
                self.assertEqual(first_elder(rule, once(write(0), write(1), PASS, put(0), read(0))), expected)
                self.assertEqual(first_elder(rule, once(write(0), PASS, put(0), read(0))), 3)

    def test_the_first_one_of_several(self):
        rule = rule_of(width=2, lines=2, look="past")
        self.assertEqual(first_elder(rule, once(write(0), read(1), write(1), read(1), read(0))), 3)

    def test_over_the_times_of_a_word(self):
        # The read of the third time is told what the line has held since the write of the first one.
        for sends, look, many in itertools.product(("whole", "parts", "filled"), ("into", "first"), (1, 2, 3, 4, MOST)):
            rule = rule_of(width=2, sends=sends, look=look)
            expected = 6 if many > 2 and sends == "filled" and look == "into" else None
            self.assertEqual(first_elder(rule, times(many, read(0), put(0), write(1))), expected)

    def test_over_the_pieces(self):
        for look, many in itertools.product(("into", "first"), (1, 2, 3, 4, MOST)):
            rule = rule_of(look=look)
            self.assertIsNone(first_elder(rule, times(many, read(0), put(0))))
            program = times(many, PASS, write(0)) + times(many, read(0), put(0))
            # By "first" the read ahead of the put waits for the line.
            self.assertEqual(first_elder(rule, program), 2 * many + 2 if many > 1 and look == "into" else None)
            program = times(many, write(0), PASS) + times(many, put(0)) + times(many, PASS, PASS, read(0))
            self.assertEqual(first_elder(rule, program), 3 * many + 2)

    def test_far_behind(self):
        rule = rule_of(width=2, look="past", kinds=((0,),))
        calm = times(MOST, write(0), PASS, read(0), fences={1: (0,)})
        self.assertIsNone(first_elder(rule, calm))
        self.assertIsNone(first_elder(rule, calm + times(MOST, read(0), read(3))))
        program = calm + times(MOST, PASS, write(1)) + times(MOST, read(0), PASS, read(1))
        self.assertEqual(first_elder(rule, program), 3 * MOST + 2 * MOST + 2)
        program = calm + times(MOST, PASS, read(1), write(1))
        self.assertEqual(first_elder(rule, program), 3 * MOST + 4)
