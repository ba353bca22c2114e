"""Points 39 and 40: rules, programs and runs as texts."""

import random
import unittest

from heldwrites.errors import BadProgram, BadRule, BadText
from heldwrites.machine import state_after
from heldwrites.texts import read_program, read_rule, read_run, show_program, show_rule, show_run
from model import Model, some_program, some_rule
from samples import OTHER_THINGS, PASS, chain_of, do, put, read, rule_of, send, write

RULE = rule_of(width=2, lines=3, kinds=((0,), (1, 2), (0, 1, 2)), acting=(0, 5))
NO_TEXTS = [thing for thing in OTHER_THINGS if not isinstance(thing, str)] + [["pass - > -"], ("do 0",), b"do 0", b""]

RULES = [
    ((1, 1, 1, "whole", False, "into", (), ()), "1 1 1 whole free into - -"),
    ((3, 2, 1, "parts", True, "past", ((0,),), (5,)), "3 2 1 parts eager past 0 5"),
    ((2, 3, 2, "filled", False, "first", ((0, 2), (1,), (0, 1, 2)), (0, 3)), "2 3 2 filled free first 02,1,012 0,3"),
    ((1, 3, 3, "whole", True, "first", ((2,), (2,)), ()), "1 3 3 whole eager first 2,2 -"),
    ((3, 3, 3, "parts", False, "into", (), (7, 8)), "3 3 3 parts free into - 7,8"),
]

PROGRAMS = [
    (((PASS, (), ()),), "pass - > -"),
    (((PASS, (0, 2), (0,)),), "pass 0,2 > 0"),
    (chain_of(write(0), put(5), read(3), fences={1: (1,)}), "write 0 - > 1\nput 5 1 > 2\nread 3 - > -"),
    (
        tuple((write(row % 6), (0, 1, 2), tuple(range(8))) for row in range(8)),
        "\n".join(f"write {row % 6} 0,1,2 > 0,1,2,3,4,5,6,7" for row in range(8)),
    ),
    (((read(1), (), (1,)), (PASS, (2,), (0, 1))), "read 1 - > 1\npass 2 > 0,1"),
]

RUNS = [
    ([], ""),
    ([do(0)], "do 0"),
    ([do(-1)], "do ."),
    ([send(0, 0)], "send 0 0"),
    ([do(7), send(2, 0, 1, 2), do(-1), send(1, 1)], "do 7; send 2 012; do .; send 1 1"),
    ([do(9), send(9, *range(10)), send(3, 4, 8)], "do 9; send 9 0123456789; send 3 48"),
]


class Texts(unittest.TestCase):
    def assert_bad(self, line, function, *arguments):
        with self.assertRaises(BadText, msg=repr(arguments)[:200]) as caught:
            function(*arguments)
        self.assertIs(type(caught.exception), BadText)
        self.assertEqual(caught.exception.line, line, repr(arguments)[:200])
        self.assertIs(type(caught.exception.line), int)


class Rules(Texts):
    def test_written_and_read_back(self):
        for rule, text in RULES:
            self.assertEqual(show_rule(rule), text)
            self.assertEqual(read_rule(text), rule)
            self.assertIs(read_rule(text)[4], rule[4])
            self.assertIs(type(show_rule(rule)), str)

    def test_rules_by_chance(self):
        chance = random.Random(1)
        for _ in range(2000):
            rule = some_rule(chance)
            self.assertEqual(read_rule(show_rule(rule)), rule)
            self.assertNotIn("\n", show_rule(rule))

    def test_no_rule_is_written(self):
        for thing in OTHER_THINGS + [list(RULE), RULE[:7]]:
            with self.assertRaises(BadRule):
                show_rule(thing)

    def test_parts_that_are_not_of_their_form(self):
        good = ["2", "3", "2", "filled", "eager", "first", "02,1", "0,3"]
        self.assertEqual(read_rule(" ".join(good)), (2, 3, 2, "filled", True, "first", ((0, 2), (1,)), (0, 3)))
        number = ["", "0", "4", "9", "02", "2.", "+2", "-2", "x", "-", "two", "2\n", "True"]
        word = ["", "-", "Whole", "whole ", "into,", "1", "true", "True", "\n"]
        spoilt = [
            number, number, number, word + ["part", "eager", "first"],
            word + ["Eager", "FREE", "whole", "False", "first"],
            word + ["First", "eager", "whole"],
            [
                "", "3", "10", "00", "1,3", "1,,2", ",1", "1,", "1, 2", "20,1", "0-", "0,1,2,0", "x", "02;1", "--",
                "-,-", "1\n",
            ],
            [
                "", "6", "3,0", "0,0", "0,1,2", "03", "0,", ",0", "0,,1", "0;1", "--", "-,0", "x", "0,-", "0\n", "0,10",
                "0,6",
            ],
        ]
        for place, things in enumerate(spoilt):
            for thing in things:
                self.assert_bad(0, read_rule, " ".join(good[:place] + [thing] + good[place + 1:]))

    def test_blanks_and_the_number_of_parts(self):
        text = RULES[2][1]
        parts = text.split(" ")
        for bad in (
            "", " ", "\n", " " + text, text + " ", text + "\n", "\n" + text, text.replace(" ", "  ", 1), text.upper(),
            text.replace(" ", "\n", 1), text.replace(" ", ""), text + " -", text + "\n" + text, text.replace(" ", "\t"),
        ):
            self.assert_bad(0, read_rule, bad)
        for place in range(8):
            self.assert_bad(0, read_rule, " ".join(parts[:place] + parts[place + 1:]))
            self.assert_bad(0, read_rule, " ".join(parts[:place] + parts[place:place + 1] + parts[place:]))

    def test_texts_of_the_form_that_write_no_rule(self):
        for text in (
            "0 1 1 whole free into - -", "1 4 1 whole free into - -", "1 1 9 whole free into - -",
            "1 1 1 whole free into 1 -", "1 1 1 whole free into - 1", "1 1 1 whole free into 0,0,0,0 -",
            "2 3 1 whole free into - 0,1,2", "2 2 1 whole free into 012 -", "2 2 1 whole free into - 4",
        ):
            self.assert_bad(0, read_rule, text)
        self.assertEqual(read_rule("1 1 1 whole free into 0,0,0 0")[6:], (((0,),) * 3, (0,)))

    def test_any_other_object(self):
        for thing in NO_TEXTS + [RULES[0][0]]:
            self.assert_bad(0, read_rule, thing)
        for thing in OTHER_THINGS:
            self.assert_bad(0, read_rule, thing)
        self.assert_bad(0, read_rule, "1 " * 5000)
        self.assert_bad(0, read_rule, "\n" * 10000)
        self.assert_bad(0, read_rule, "1 1 1 whole free into - " + "0," * 4900)


class Programs(Texts):
    def test_written_and_read_back(self):
        for program, text in PROGRAMS:
            self.assertEqual(show_program(RULE, program), text)
            self.assertEqual(read_program(RULE, text), program)
            self.assertIs(type(read_program(RULE, text)), tuple)

    def test_programs_by_chance(self):
        chance = random.Random(2)
        for _ in range(2000):
            rule = some_rule(chance)
            program = some_program(chance, rule)
            text = show_program(rule, program)
            self.assertEqual(read_program(rule, text), program)
            self.assertEqual(text.count("\n"), len(program) - 1)

    def test_no_program_is_written(self):
        for thing in OTHER_THINGS + [chain_of(write(6)), list(PROGRAMS[0][0])]:
            with self.assertRaises(BadProgram):
                show_program(RULE, thing)

    def test_bad_rules_first(self):
        for thing in OTHER_THINGS + [RULE[:7]]:
            for call, other in ((show_program, None), (read_program, None), (read_program, "x")):
                with self.assertRaises(BadRule):
                    call(thing, other)

    def test_lines_that_are_not_of_their_form(self):
        bad = [
            "", " ", "pass", "pass -", "pass - >", "pass - > ", "pass -> -", "pass - -", "pass > -", "- > -", "> -",
            "pass  - > -", " pass - > -", "pass - > - ", "pass -  > -", "pass - >  -", "pass 0 - > -", "Pass - > -",
            "PASS - > -", "write - > -", "write 0 > -", "write 00 - > -", "write x - > -", "write -1 - > -",
            "write  - > -", "Write 0 - > -", "send 0 - > -", "write 0 - < -", "write 0 - > - -", "write 0 1 2 > -",
            "write 0 0,0 > -", "write 0 1,0 > -", "write 0 01 > -", "write 0 0, > -", "write 0 ,0 > -",
            "write 0 0,,1 > -", "write 0 -,0 > -", "write 0 0;1 > -", "write 0 0, 1 > -", "write 0 -- > -",
            "write 0 - > 0,0", "write 0 - > 1,0", "write 0 - > 01", "write 0 - > 0,", "write 0 - > ,0",
            "write 0 - > 0,,1", "write 0 - > x", "write 0 - > -1", "write 0 - > --", "write 0 - > 0;1", "write 0 - >0",
            "write 0 - > .", "write 0 - > 10", "write 0-  > 0", "do 0", "pass\t- > -", "put, 0 - > -",
            "read 0 - > 0 > 0",
        ]
        for line in bad:
            self.assert_bad(0, read_program, RULE, line)
            self.assert_bad(1, read_program, RULE, f"pass - > 1\n{line}")
            self.assert_bad(1, read_program, RULE, f"pass - > -\n{line}\npass - > -\n{line}")

    def test_places_and_kinds_that_the_rule_does_not_have(self):
        for line in ("write 6 - > -", "put 9 - > -", "read 7 - > -", "pass 3 > -", "write 0 0,3 > -", "put 0 9 > -"):
            self.assert_bad(0, read_program, RULE, line)
            self.assert_bad(2, read_program, RULE, f"pass - > -\npass - > 9\n{line}")
        self.assertEqual(read_program(RULE, "write 5 2 > -"), ((write(5), (2,), ()),))
        self.assert_bad(0, read_program, rule_of(lines=1), "write 1 - > -")
        self.assert_bad(0, read_program, rule_of(), "pass 0 > -")

    def test_nexts_that_name_a_row_that_does_not_come(self):
        for nexts in ("1", "9", "0,1", "0,9"):
            self.assert_bad(0, read_program, RULE, f"pass - > {nexts}")
        self.assert_bad(1, read_program, RULE, "pass - > 0,1,2\npass - > 3\npass - > 4")
        self.assert_bad(7, read_program, RULE, "\n".join(["pass - > 7"] * 7 + ["pass - > 8"]))
        self.assertEqual(len(read_program(RULE, "pass - > 2\npass - > -\npass - > 0")), 3)

    def test_faults_in_unlike_lines(self):
        # A fault of form in any line comes before a next that names no row.
        self.assert_bad(2, read_program, RULE, "pass - > 9\npass - > 8\nx\npass - > 9")
        self.assert_bad(1, read_program, RULE, "pass - > 9\nwrite 6 - > 9\nx")
        self.assert_bad(1, read_program, RULE, "pass - > 0\npass 3 > 0\nwrite 9 - > 0")
        self.assert_bad(1, read_program, RULE, "pass - > 0\npass - > 5\npass - > 6")

    def test_nine_lines(self):
        eight = "\n".join(["pass - > -"] * 8)
        self.assertEqual(len(read_program(RULE, eight)), 8)
        self.assert_bad(8, read_program, RULE, eight + "\npass - > -")
        self.assert_bad(8, read_program, RULE, eight + "\nx\nx")
        self.assert_bad(8, read_program, RULE, eight + "\n")
        self.assert_bad(8, read_program, RULE, eight + "\npass - > 9" * 4)
        self.assert_bad(8, read_program, RULE, "pass - > 9\n" + eight)
        self.assert_bad(8, read_program, RULE, "pass - > 8\n" + eight)
        self.assert_bad(3, read_program, RULE, eight.replace("pass", "skip", 4).replace("skip", "pass", 3) + "\nx")
        self.assert_bad(8, read_program, RULE, "pass - > -\n" * 900)

    def test_empty_lines(self):
        for text, line in (
            ("", 0), ("\n", 0), ("pass - > -\n", 1), ("\npass - > -", 0), ("pass - > -\n\npass - > -", 1),
            ("pass - > 1\n\n", 1), ("pass - > 0\npass - > 9\n", 2), ("\n" * 10000, 0),
        ):
            self.assert_bad(line, read_program, RULE, text)

    def test_any_other_object(self):
        for thing in NO_TEXTS + [PROGRAMS[0][0]]:
            self.assert_bad(0, read_program, RULE, thing)
        for thing in OTHER_THINGS:
            self.assert_bad(0, read_program, RULE, thing)


class Runs(Texts):
    def test_written_and_read_back(self):
        for run, text in RUNS:
            self.assertEqual(show_run(run), text)
            self.assertEqual(read_run(text), run)
            self.assertEqual([type(step) for step in read_run(text)], [tuple] * len(run))
            self.assertIs(type(read_run(text)), list)

    def test_the_kinds_of_values(self):
        steps = read_run("do 3; do .; send 1 02")
        self.assertEqual([type(part) for step in steps for part in step], [str, int, str, int, str, int, tuple])
        self.assertEqual([type(offset) for offset in steps[2][2]], [int, int])

    def test_runs_by_chance(self):
        chance = random.Random(3)
        for _ in range(300):
            rule = some_rule(chance)
            program = some_program(chance, rule)
            model, run = Model(rule, program), []
            while model.possible() and len(run) < 40:
                run.append(chance.choice(model.possible()))
                model.take(run[-1])
            self.assertEqual(read_run(show_run(run)), run)
            state_after(rule, program, read_run(show_run(run)))

    def test_whether_the_steps_can_be_taken_is_not_looked_at(self):
        self.assertEqual(read_run("do 9; do 0; send 9 9"), [do(9), do(0), send(9, 9)])

    def test_texts_of_another_form(self):
        for text in (
            " ", "do", "do ", "do 00", "do 10", "do -1", "do x", "do -", "do ..", "do 0 ", " do 0", "do  0", "Do 0",
            "DO 0", "do 0.", "do0", "do 0 0", "do 0 .", "do .0", "do 0,1", "send", "send 0", "send 0 ", "send  0",
            "send 0 .", "send . 0", "send 00 0", "send 0 00", "send 0 10", "send 0 0,1", "send 0 0 1", "send 0 -",
            "send x 0", "send 0 x", "send 0 0x", "send -1 0", "Send 0 0", "SEND 0 0", "send 0 011", "send 0 021",
            "send 0 01234567890", "pass", "undo 0", "write 0", "do 0;do 1", "do 0 ; do 1", "do 0;  do 1", "do 0, do 1",
            "do 0; ", "; do 0", "; ", ";", "do 0; ; do 1", "do 0;", "do 0\n", "\ndo 0", "do 0\ndo 1", "do 0;\ndo 1",
            "\n", "do\t0", "do 0; do", "do 0; send 0 0 ", "send 0 \n",
        ):
            self.assert_bad(0, read_run, text)
            self.assert_bad(0, read_run, "do 1; " + text)
            if text:
                self.assert_bad(0, read_run, text + "; do 1")

    def test_a_thousand_steps_and_one_more(self):
        for step, entry in (("do 1", do(1)), ("do .", do(-1)), ("send 0 0", send(0, 0))):
            self.assertEqual(read_run("; ".join([step] * 1000)), [entry] * 1000)
            self.assertEqual(show_run([entry] * 1000), "; ".join([step] * 1000))
            self.assert_bad(0, read_run, "; ".join([step] * 1001))

    def test_any_other_object(self):
        for thing in NO_TEXTS + [[], [do(0)]]:
            self.assert_bad(0, read_run, thing)
        for thing in OTHER_THINGS:
            if thing != "" or not isinstance(thing, str):
                self.assert_bad(0, read_run, thing)
        self.assert_bad(0, read_run, "do 1; " * 1600)
        self.assert_bad(0, read_run, "send 0 " + "0" * 9000)

    def test_lists_are_new(self):
        for text in ("", "do 0; do 1"):
            first = read_run(text)
            kept = list(first)
            first.append(None)
            self.assertEqual(read_run(text), kept)


class TheExample(Texts):
    def test_as_texts(self):
        rule = read_rule("1 2 2 whole free into 0 -")
        program = read_program(rule, "write 0 - > 1\nwrite 1 - > -")
        run = read_run("do 1; do .; send 1 0")
        self.assertEqual(state_after(rule, program, run)[2], (0, 2))
        self.assertEqual((show_rule(rule), show_run(run)), ("1 2 2 whole free into 0 -", "do 1; do .; send 1 0"))
        self.assertEqual(show_program(rule, program), "write 0 - > 1\nwrite 1 - > -")
