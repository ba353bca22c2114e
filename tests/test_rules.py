import copy
import unittest

from heldwrites.errors import BadRule
from heldwrites.machine import given_by, possible_steps, state_after, told_by
from heldwrites.rules import is_program, is_rule
from samples import OTHER_THINGS, Strange, chain_of, rule_of, write

LEAST = (1, 1, 1, "whole", False, "into", (), ())
MOST = (3, 3, 3, "filled", True, "past", ((0, 1, 2), (0, 2), (1,)), (0, 8))
# The objects that no field of a rule takes.
NO_FIELD = [
    None, "", "0", b"whole", object(), Strange(), {}, {"whole": 1}, set(), ("whole",), ["whole"], (None,), (Strange(),),
    -1, 4, 10 ** 59,
]


def with_part(rule, part, thing):
    return rule[:part] + (thing,) + rule[part + 1:]


class Rules(unittest.TestCase):
    def assert_bad(self, thing):
        with self.subTest(thing=repr(thing)[:80]):
            self.assertIs(is_rule(thing), False)

    def assert_part_bad(self, part, things):
        for rule in (LEAST, MOST):
            for thing in things:
                self.assert_bad(with_part(rule, part, thing))

    def test_both_ends_of_each_range(self):
        for rule in (LEAST, MOST):
            self.assertIs(is_rule(rule), True)
        for part in range(3):
            for number in (1, 2, 3):
                self.assertIs(is_rule(with_part(LEAST, part, number)), True)

    def test_each_word(self):
        for sends in ("whole", "parts", "filled"):
            for look in ("into", "past", "first"):
                for eager in (True, False):
                    self.assertIs(is_rule(rule_of(sends=sends, look=look, eager=eager)), True)

    def test_room_may_be_more_than_the_lines(self):
        self.assertIs(is_rule(rule_of(lines=1, room=3)), True)

    def test_width_lines_and_room_out_of_range_or_no_integer(self):
        for part in range(3):
            self.assert_part_bad(part, NO_FIELD + [0, True, False, "1", (1,), [1]])

    def test_sends(self):
        self.assert_part_bad(3, NO_FIELD + ["Whole", "whole ", "part", "into", True, 0, 1])

    def test_eager(self):
        self.assert_part_bad(4, NO_FIELD + [0, 1, "eager", "True", ()])

    def test_look(self):
        self.assert_part_bad(5, NO_FIELD + ["Into", "passed", "whole", True, 0, 1])

    def test_kinds_of_each_number(self):
        for many in range(4):
            self.assertIs(is_rule(rule_of(kinds=((0,),) * many)), True)
        self.assert_bad(rule_of(kinds=((0,),) * 4))

    def test_kinds_need_no_order_and_may_be_alike(self):
        self.assertIs(is_rule(rule_of(kinds=((1,), (0,), (1,)))), True)

    def test_kinds_spoilt(self):
        self.assert_part_bad(6, NO_FIELD + [
            [], [(0,)], ([0],), ((),), ((0,), ()), (0,), 0, True, ((True,),), ((False,),), ((0, 0),),
            ((-1,),), (("0",),), ((None,),), ("0",), ({0: 0},), (((0,),),), ((0,), [0]), ((3,),),
        ])

    def test_kinds_name_lines_of_the_rule_ascending(self):
        self.assertIs(is_rule(rule_of(lines=2, kinds=((0, 1),))), True)
        for kind in ((1, 0), (0, 0, 1), (1, 1), (2,), (0, 2), (0, 1, 2), (0, True)):
            self.assert_bad(rule_of(lines=2, kinds=(kind,)))

    def test_acting_of_each_number(self):
        for acting in ((), (0,), (5,), (0, 1), (0, 5), (4, 5)):
            self.assertIs(is_rule(rule_of(width=2, lines=3, acting=acting)), True)
        self.assert_bad(rule_of(width=2, lines=3, acting=(0, 1, 2)))

    def test_acting_spoilt(self):
        self.assert_part_bad(7, NO_FIELD + [
            [], [0], 0, True, (True,), (False,), (0, 0), (1, 0), (-1,), (9,), (0, 9), ("0",), (None,), ((0,),),
            (0, [1]),
        ])
        self.assert_bad(rule_of(width=2, lines=3, acting=(6,)))
        self.assert_bad(rule_of(width=2, lines=3, acting=(0, 6)))

    def test_too_few_and_too_many_parts(self):
        for rule in (LEAST, MOST):
            for many in range(8):
                self.assert_bad(rule[:many])
            self.assert_bad(rule + ((),))

    def test_a_list_is_no_rule(self):
        self.assert_bad(list(LEAST))
        self.assert_bad(list(MOST))

    def test_any_other_object(self):
        for thing in OTHER_THINGS:
            self.assert_bad(thing)

    def test_by_name(self):
        self.assertIs(is_rule(thing=LEAST), True)

    def test_a_spoilt_rule_is_not_changed(self):
        thing = with_part(LEAST, 6, [[0]])
        before = copy.deepcopy(thing)
        is_rule(thing)
        self.assertEqual(thing, before)


class BadRules(unittest.TestCase):
    def test_each_function_that_takes_a_rule_raises_bad_rule(self):
        program = chain_of(write(0))
        bad = [list(LEAST), LEAST[:7], with_part(LEAST, 4, 0), with_part(LEAST, 0, True), None, (), "rule"]
        for rule in bad + OTHER_THINGS:
            with self.subTest(rule=repr(rule)[:80]):
                with self.assertRaises(BadRule):
                    is_program(rule, program)
                for function in (possible_steps, state_after, told_by, given_by):
                    with self.assertRaises(BadRule):
                        function(rule, program, [])

    def test_a_bad_rule_comes_before_a_bad_program(self):
        for function in (possible_steps, state_after, told_by, given_by):
            with self.assertRaises(BadRule):
                function(None, None, [None])
        with self.assertRaises(BadRule):
            is_program(None, None)
