"""Points 41 and 42: what the desk answers, and what it does not."""

import inspect
import random
import unittest

from heldwrites import desk
from heldwrites.answers import answer_to
from heldwrites.compared import rule_form
from heldwrites.desk import Desk
from heldwrites.errors import BadCommand, BadProgram, BadQuestion, BadSpot, BadText, TooMany
from heldwrites.fences import with_fences
from heldwrites.texts import show_program, show_rule
from histories import questions_of
from model import small_program, some_rule
from samples import OTHER_THINGS

RULE = "rule 2 2 2 whole free into 0,1 0"


def desk_with(*rows):
    """A desk to which the rows were said, each of which is ok."""
    found = Desk()
    for row in rows:
        assert found.say(row) == "ok", row
    return found


class Said(unittest.TestCase):
    def assert_answers(self, found, *pairs):
        for row, answer in pairs:
            told = found.say(row)
            self.assertEqual((row, told), (row, answer))
            self.assertIs(type(told), str)

    def assert_error(self, found, row, error, line=None):
        with self.assertRaises(error, msg=repr(row)[:200]) as caught:
            found.say(row)
        self.assertIs(type(caught.exception), error, repr(row)[:200])
        if error is BadText:
            self.assertEqual(caught.exception.line, 0)

    def everything(self, found):
        """What the desk tells, without changing it."""
        told = [found.say("form"), found.say("ready")]
        rows = ["show", "ask acts"] + [f"ask falls {place}" for place in range(9)]
        rows += [f"ask elder {row}" for row in range(8)]
        for row in rows:
            try:
                told.append(found.say(row))
            except ValueError as error:
                told.append(type(error))
        return told


class TheClass(Said):
    def test_it_is_made_of_nothing_and_says(self):
        self.assertIs(inspect.getmodule(Desk), desk)
        self.assertIn("say", vars(Desk))
        self.assertEqual(list(inspect.signature(Desk).parameters), [])
        self.assertEqual(list(inspect.signature(Desk.say).parameters), ["self", "row"])
        self.assertEqual(Desk().say(row="ready"), "yes")


class Beginning(Said):
    def test_a_new_desk(self):
        for row, answer in (
            ("ready", "yes"), ("form", "1 whole free into"), ("show", "pass - > -"), ("ask acts", "never 2"),
            ("ask falls 0", "never 2"), ("row pass - > -", "ok"), ("rule 1 1 1 whole eager into - -", "ok"),
        ):
            self.assert_answers(Desk(), (row, answer))
        for row, error in (
            ("ask elder 0", BadQuestion), ("ask falls 1", BadQuestion), ("ask ahead 0 0", BadQuestion),
            ("fence 0 0", BadSpot), ("fence 1 0", BadSpot), ("row write 1 - > -", BadText), ("row pass 0 > -", BadText),
        ):
            self.assert_error(Desk(), row, error)

    def test_behind_a_rule(self):
        found = desk_with(RULE, "row write 3 - > 1", "row read 0 - > -", RULE)
        self.assert_answers(
            found, ("ready", "yes"), ("show", "pass - > -"), ("form", "2 whole free into"), ("ask acts", "never 2"),
            ("fence 0 1", "ok"), ("show", "pass 1 > -"), ("row put 3 - > -", "ok"), ("show", "put 3 - > -"),
        )

    def test_the_pass_gives_way_to_the_first_row_alone(self):
        found = desk_with("row pass - > 0")
        self.assert_answers(found, ("show", "pass - > 0"), ("row pass - > -", "ok"))
        self.assert_answers(found, ("show", "pass - > 0 / pass - > -"))

    def test_the_pass_gives_way_with_its_fence(self):
        found = desk_with(RULE, "fence 0 0")
        self.assert_answers(found, ("row pass - > -", "ok"), ("show", "pass - > -"))

    def test_a_rule_that_is_none_leaves_the_program(self):
        found = desk_with(RULE, "row write 3 - > -")
        self.assert_error(found, "rule 4 2 2 whole free into - -", BadText)
        self.assert_answers(found, ("show", "write 3 - > -"), ("form", "2 whole free into"))


class Rows(Said):
    def test_rows_behind_the_rows(self):
        found = desk_with(RULE)
        shown = []
        for number in range(8):
            text = f"write {number % 4} 0,1 > {number}"
            shown.append(text)
            self.assert_answers(found, ("row " + text, "ok"), ("show", " / ".join(shown)))

    def test_nexts_up_to_seven(self):
        found = desk_with(RULE, "row pass - > 0,1,2,3,4,5,6,7")
        self.assert_answers(found, ("ready", "no"))
        for nexts in ("8", "9", "0,8", "7,9"):
            self.assert_error(found, f"row pass - > {nexts}", BadText)
        for number in range(7):
            self.assert_answers(found, ("ready", "no"), ("row pass - > 7", "ok"))
        self.assert_answers(found, ("ready", "yes"))

    def test_rows_that_are_none(self):
        found = desk_with(RULE, "row write 3 - > -")
        before = self.everything(found)
        for text in (
            "", " ", "pass", "pass - > ", "pass - > - ", " pass - > -", "pass  - > -", "pass 0 - > -", "Pass - > -",
            "write - > -", "write 4 - > -", "put 9 - > -", "read 00 - > -", "pass 2 > -", "pass 1,0 > -",
            "pass 0,0 > -", "pass - > 1,0", "pass - > 1,1", "pass - > 10", "pass - > .", "pass - > -\n",
            "pass - > -\npass - > -",
            "\n", "write 0 - > - / pass - > -", "x" * 9000,
        ):
            self.assert_error(found, "row " + text, BadText)
        self.assertEqual(self.everything(found), before)
        self.assert_answers(found, ("show", "write 3 - > -"))

    def test_a_row_that_is_none_leaves_the_first_pass(self):
        found = desk_with(RULE)
        self.assert_error(found, "row pass - > 8", BadText)
        self.assert_answers(found, ("show", "pass - > -"), ("row read 0 - > -", "ok"), ("show", "read 0 - > -"))

    def test_a_ninth_row(self):
        found = desk_with(RULE, *["row pass - > 0"] * 8)
        self.assert_error(found, "row pass - > 0", TooMany)
        self.assert_error(found, "row pass - > 8", BadText)
        self.assert_error(found, "row ", BadText)
        self.assert_answers(found, ("show", " / ".join(["pass - > 0"] * 8)), ("ready", "yes"))
        self.assert_answers(found, (RULE, "ok"), ("row pass - > -", "ok"))


class Ready(Said):
    def test_yes_and_no(self):
        found = desk_with("row pass - > 1")
        self.assert_answers(found, ("ready", "no"), ("row pass - > 2", "ok"), ("ready", "no"))
        self.assert_answers(found, ("row pass - > 0,2", "ok"), ("ready", "yes"))

    def test_no_program_to_ask_or_show(self):
        found = desk_with(RULE, "row read 0 - > 1")
        for row in (
            "show", "ask acts", "ask elder 0", "ask falls 0", "ask ahead 0 1", "ask elder 9", "ask falls 9",
            "ask ahead 9 9",
        ):
            self.assert_error(found, row, BadProgram)
        self.assert_answers(found, ("ready", "no"), ("form", "2 whole free into"), ("row pass - > -", "ok"))
        self.assert_answers(found, ("show", "read 0 - > 1 / pass - > -"))


class Fences(Said):
    def test_a_fence_to_a_row(self):
        found = desk_with(RULE, "row write 0 - > 1", "row write 2 1 > -")
        self.assert_answers(
            found, ("fence 0 1", "ok"), ("fence 1 0", "ok"), ("show", "write 0 1 > 1 / write 2 0,1 > -"),
            ("fence 1 0", "ok"), ("fence 1 1", "ok"), ("show", "write 0 1 > 1 / write 2 0,1 > -"),
            ("fence 0 0", "ok"), ("show", "write 0 0,1 > 1 / write 2 0,1 > -"),
        )

    def test_also_if_the_rows_make_no_program(self):
        found = desk_with(RULE, "row write 0 - > 2", "row write 2 - > 7")
        self.assert_answers(found, ("ready", "no"), ("fence 1 1", "ok"), ("fence 0 0", "ok"), ("ready", "no"))
        self.assert_error(found, "fence 2 0", BadSpot)
        for _ in range(6):
            self.assert_answers(found, ("row pass - > -", "ok"))
        shown = " / ".join(["write 0 0 > 2", "write 2 1 > 7"] + ["pass - > -"] * 6)
        self.assert_answers(found, ("ready", "yes"), ("show", shown))

    def test_rows_and_kinds_that_do_not_exist(self):
        found = desk_with(RULE, "row write 0 - > -", "row write 2 - > 5")
        before = self.everything(found)
        for row in ("fence 2 0", "fence 9 0", "fence 0 2", "fence 1 9", "fence 9 9"):
            self.assert_error(found, row, BadSpot)
        self.assertEqual(self.everything(found), before)
        self.assert_error(desk_with("row pass - > -"), "fence 0 0", BadSpot)


class Forms(Said):
    def test_the_form_of_each_rule(self):
        for rule, form in (
            ("1 1 1 whole eager into - -", "straight"), ("1 3 3 parts eager first - -", "straight"),
            ("1 3 3 parts free first - -", "2 whole free first"),
            ("3 1 3 filled eager past - -", "1 filled eager past"),
            ("2 2 3 parts eager into - -", "2 parts free into"), ("2 3 1 whole eager into - -", "1 whole eager into"),
        ):
            self.assert_answers(desk_with("rule " + rule), ("form", form))

    def test_by_chance(self):
        chance = random.Random(4)
        for _ in range(300):
            rule = some_rule(chance)
            form = rule_form(rule)
            if len(form) > 1:
                form = (str(form[0]), form[1], "eager" if form[2] else "free", form[3])
            self.assert_answers(desk_with("rule " + show_rule(rule)), ("form", " ".join(form)))


class Asking(Said):
    rows = [RULE, "row write 0 - > 1", "row write 2 - > 2", "row put 0 - > 3", "row read 0 - > -"]

    def test_each_sort_of_question(self):
        found = desk_with(*self.rows)
        for row, many in (("ask elder 3", 4), ("ask falls 0", 3), ("ask ahead 0 1", 2), ("ask acts", 3)):
            self.assert_answers(found, (row, f"run {many}"))
        rule = (2, 2, 2, "whole", False, "into", ((0,), (1,)), (0,))
        program = (
            (("write", 0), (), (1,)), (("write", 2), (), (2,)), (("put", 0), (), (3,)), (("read", 0), (), ()),
        )
        for row, question in (("ask falls 1", ("falls", 1)), ("ask ahead 2 1", ("ahead", 2, 1))):
            word, views = answer_to(rule, program, question)
            self.assertEqual(word, "never")
            self.assert_answers(found, (row, f"never {len(views)}"))

    def test_with_fences(self):
        found = desk_with(*self.rows, "fence 1 0")
        rule = (2, 2, 2, "whole", False, "into", ((0,), (1,)), (0,))
        program = (
            (("write", 0), (), (1,)), (("write", 2), (), (2,)), (("put", 0), (), (3,)), (("read", 0), (), ()),
        )
        for row, question in (
            ("ask ahead 0 1", ("ahead", 0, 1)), ("ask acts", ("acts",)), ("ask elder 3", ("elder", 3)),
        ):
            word, views = answer_to(rule, with_fences(rule, program, ((1, 0),)), question)
            self.assertEqual(word, "never")
            self.assert_answers(found, (row, f"never {len(views)}"))

    def test_what_is_no_question(self):
        found = desk_with(*self.rows)
        before = self.everything(found)
        for row in (
            "ask elder 0", "ask elder 2", "ask elder 4", "ask elder 9", "ask falls 4", "ask falls 9", "ask ahead 0 2",
            "ask ahead 0 0", "ask ahead 0 3", "ask ahead 3 0", "ask ahead 4 0", "ask ahead 9 9",
        ):
            self.assert_error(found, row, BadQuestion)
        self.assertEqual(self.everything(found), before)

    def test_by_chance(self):
        chance = random.Random(5)
        seen = set()
        for _ in range(150):
            rule = some_rule(chance)
            program = small_program(chance, rule, chance.randint(1, 5), True)
            rows = ["row " + line for line in show_program(rule, program).split("\n")]
            found = desk_with("rule " + show_rule(rule), *rows)
            self.assert_answers(found, ("ready", "yes"), ("show", show_program(rule, program).replace("\n", " / ")))
            for question in questions_of(rule, program):
                word, told = answer_to(rule, program, question)
                many = len(told) if word == "never" else len([step for step in told if step[0] == "do"])
                self.assert_answers(found, ("ask " + " ".join(map(str, question)), f"{word} {many}"))
                seen.add((question[0], word))
        self.assertEqual(len(seen), 8)


class Errors(Said):
    def test_objects_that_are_no_row_of_these_forms(self):
        found = desk_with(RULE, "row write 3 - > -")
        before = self.everything(found)
        rows = ["ready", "form", "show", "ask acts", "ask elder 0", "ask falls 0", "ask ahead 0 0", "fence 0 0"]
        things = [changed for row in rows for changed in (
            " " + row, row + " ", row + "\n", "\n" + row, row.upper(), row.title(), row + " 0", row + "0",
            row.replace(" ", "  ") + " ", row + " /", row[:-1], row + "; ready",
        )]
        things += [
            "", " ", "\n", "rule", "row", "Rule 1 1 1 whole free into - -", "ROW pass - > -", " row pass - > -",
            "rows pass", "rule\n1 1 1 whole free into - -", "row\tpass - > -", "rules ", "ask", "ask ", "ask  acts",
            "ask acts acts",
            "ask elder", "ask elder ", "ask elder 00", "ask elder -1", "ask elder x", "ask elder 10", "ask falls",
            "ask falls 0 0", "ask ahead 0", "ask ahead 0 0 0", "ask ahead 0  0", "ask ahead 0,0", "ask fall 0", "ask 0",
            "ask None", "elder 0", "fence", "fence 0", "fence 0 0 0", "fence 00 0", "fence 0 -", "fence x 0",
            "fence -1 0", "fence (0, 0)", "0", "0 0 0", "read 0", "pass - > -", "do 0", "run", "help", "x" * 10000,
            "ready\nready",
            "form form", "None", "ask None None None",
        ]
        for thing in things + OTHER_THINGS + [b"ready", ["ready"], ("ready",), ("ask", "acts"), ("fence", 0, 0)]:
            self.assert_error(found, thing, BadCommand)
        self.assertEqual(self.everything(found), before)

    def test_texts_behind_rule_that_are_no_rule(self):
        found = desk_with(RULE, "row write 3 - > -")
        before = self.everything(found)
        for text in (
            "", " ", "1", "1 1 1 whole free into -", " 1 1 1 whole free into - -", "1 1 1 whole free into - - ",
            "1 1 1 whole free into - -\n", "1 1 1 whole False into - -", "1 1 1 whole free into 1 -", "ready",
            "1  1 1 whole free into - -", "4 1 1 whole free into - -", "\n",
        ):
            self.assert_error(found, "rule " + text, BadText)
        self.assertEqual(self.everything(found), before)

    def test_the_first_error_that_applies(self):
        full = desk_with(RULE, *["row pass - > 0"] * 8)
        self.assert_error(full, "row pass - > 0 ", BadText)
        self.assert_error(full, "row pass - > 0", TooMany)
        unready = desk_with(RULE, "row pass - > 5")
        self.assert_error(unready, "ask elder 9", BadProgram)
        self.assert_error(unready, "ask elder x", BadCommand)
        self.assert_error(unready, "ask", BadCommand)
        self.assert_error(unready, "show ", BadCommand)
        self.assert_error(unready, "fence 1 0", BadSpot)
        self.assert_error(unready, "fence 0 5", BadSpot)
        self.assert_error(unready, "fence 1 x", BadCommand)

    def test_a_full_desk_without_a_program(self):
        found = desk_with(*["row pass - > 0"] * 7, "row pass - > 7")
        self.assert_error(found, "row pass - > 0", TooMany)
        self.assert_answers(found, ("ready", "yes"))


class Desks(Said):
    def test_a_second_desk_is_not_touched(self):
        first, second = Desk(), Desk()
        before = self.everything(second)
        for row in (RULE, "row write 0 - > 1", "row read 0 - > -", "fence 1 0"):
            first.say(row)
        self.assertEqual(self.everything(second), before)
        self.assertEqual(self.everything(Desk()), before)
        third = desk_with(RULE, "row write 0 - > 1", "row read 0 - > -")
        self.assert_answers(third, ("show", "write 0 - > 1 / read 0 - > -"))
        self.assert_answers(first, ("show", "write 0 - > 1 / read 0 0 > -"))

    def test_equal_rows_have_equal_answers(self):
        found = desk_with(*Asking.rows)
        self.assertEqual(self.everything(found), self.everything(found))
        self.assertEqual(self.everything(found), self.everything(desk_with(*Asking.rows)))


class TheExample(Said):
    def test_at_the_desk(self):
        found = desk_with("rule 1 2 2 whole free into 0 -", "row write 0 - > 1", "row write 1 - > -")
        self.assert_answers(found, ("ask ahead 0 1", "run 2"), ("fence 1 0", "ok"))
        self.assertEqual(found.say("ask ahead 0 1").split(" ")[0], "never")
        found = desk_with("rule 1 2 1 whole free into 0 -", "row write 0 - > 1", "row write 1 - > -")
        self.assertEqual(found.say("ask ahead 0 1").split(" ")[0], "never")
