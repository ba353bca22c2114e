import unittest

from heldwrites.errors import BadProgram
from heldwrites.machine import given_by, possible_steps, state_after, told_by
from heldwrites.rules import is_program
from samples import OTHER_THINGS, PASS, Strange, chain_of, put, read, rule_of, write

RULE = rule_of(width=2, lines=3, kinds=((0,), (1, 2)))
ROW = (PASS, (), ())


def row(op=PASS, fences=(), nexts=()):
    return (op, fences, nexts)


class Programs(unittest.TestCase):
    def assert_good(self, thing, rule=RULE):
        with self.subTest(thing=repr(thing)[:80]):
            self.assertIs(is_program(rule, thing), True)

    def assert_bad(self, thing, rule=RULE):
        with self.subTest(thing=repr(thing)[:80]):
            self.assertIs(is_program(rule, thing), False)
            for function in (possible_steps, state_after, told_by, given_by):
                with self.assertRaises(BadProgram):
                    function(rule, thing, [])

    def assert_row_bad(self, thing):
        self.assert_bad((thing,))
        self.assert_bad((thing, ROW))
        self.assert_bad((ROW, thing))
        self.assert_bad((ROW,) * 7 + (thing,))

    def test_from_one_row_to_eight(self):
        for many in range(1, 9):
            self.assert_good((ROW,) * many)
        self.assert_bad(())
        self.assert_bad((ROW,) * 9)

    def test_each_operation_at_both_ends(self):
        for word in ("write", "put", "read"):
            for place in (0, 5):
                self.assert_good((row((word, place)),))
            for place in (-1, 6, 10 ** 59, True, False, "0", None, (0,), [0]):
                self.assert_row_bad(row((word, place)))
        self.assert_good((row(("pass",)),))

    def test_places_hang_on_the_rule(self):
        program = chain_of(write(3))
        self.assert_good(program, rule_of(width=2, lines=2))
        self.assert_bad(program, rule_of(width=1, lines=3))
        self.assert_good(program, rule_of(width=3, lines=2))

    def test_operations_spoilt(self):
        for op in (
            (), ("write",), ("put",), ("read",), ("pass", 0), ("pass", None), ("write", 0, 0), ("pass", ()),
            ["write", 0], ["pass"], "pass", "write", ("Write", 0), ("writes", 0), (b"write", 0), (b"pass",),
            (0, "write"), (None,), (None, 0), (("pass",),), {"pass": 0}, None, True, 0,
            (Strange(),), (Strange(), 0), Strange(),
        ):
            self.assert_row_bad(row(op))

    def test_fences(self):
        for fences in ((), (0,), (1,), (0, 1)):
            self.assert_good((row(fences=fences),))
        for fences in (
            (2,), (-1,), (0, 2), (1, 0), (0, 0), (1, 1), (True,), (False,), (0, True), ("0",), ((0,),),
            [], [0], 0, None, True, "", "0", {}, {0: 0}, range(1), set(),
        ):
            self.assert_row_bad(row(fences=fences))

    def test_no_fences_where_there_are_no_kinds(self):
        self.assert_bad((row(fences=(0,)),), rule_of())
        self.assert_good((row(),), rule_of())

    def test_nexts(self):
        for nexts in ((), (0,), (1,), (2,), (0, 1, 2), (0, 2)):
            self.assert_good((row(nexts=nexts), ROW, ROW))
            self.assert_good((ROW, ROW, row(nexts=nexts)))
        for nexts in (
            (8,), (-1,), (0, 8), (1, 0), (0, 0), (True,), (False,), (0, True), ("0",), ((0,),),
            [], [0], 0, None, True, "", "0", {}, {0: 0}, range(1), set(),
        ):
            self.assert_row_bad(row(nexts=nexts))

    def test_nexts_name_rows_of_the_program(self):
        self.assert_bad((row(nexts=(1,)),))
        self.assert_bad((row(nexts=(2,)), ROW))
        self.assert_bad((ROW, row(nexts=(0, 1, 2))))
        self.assert_good((row(nexts=tuple(range(8))),) * 8)

    def test_rows_of_another_form(self):
        for thing in (
            (), (PASS,), (PASS, ()), (PASS, (), (), ()), [PASS, (), ()], ((), (), ()), "row", None, True, 0, PASS, {},
        ):
            self.assert_row_bad(thing)

    def test_a_list_of_rows_is_no_program(self):
        self.assert_bad([ROW])
        self.assert_bad(list(chain_of(write(0), put(1), read(2))))

    def test_any_other_object(self):
        for thing in OTHER_THINGS:
            self.assert_bad(thing)
            self.assert_row_bad(thing)

    def test_by_name(self):
        self.assertIs(is_program(rule=RULE, thing=(ROW,)), True)
        self.assertIs(is_program(thing=(), rule=RULE), False)

    def test_a_bad_program_comes_before_a_bad_step(self):
        for function in (possible_steps, state_after, told_by, given_by):
            with self.assertRaises(BadProgram):
                function(RULE, None, [None])
