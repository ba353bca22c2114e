"""Points 2 and 6 for the functions and methods of stages 7 to 10."""

import copy
import inspect
import itertools
import unittest

from heldwrites import longer, texts
from heldwrites.desk import Desk
from heldwrites.errors import (
    BadCommand, BadIndex, BadLong, BadPlace, BadProgram, BadQuestion, BadRule, BadStep, BadText, NothingToUndo,
)
from heldwrites.live import Machine
from heldwrites.longer import first_behind, first_elder, long_ahead, long_length, long_operation
from heldwrites.texts import read_program, read_rule, read_run, show_program, show_rule, show_run
from samples import PASS, Strange, chain_of, do, put, read, rule_of, send, write

RULE = rule_of(width=2, lines=2, look="past", kinds=((0,), (1,)), acting=(0, 2))
PROGRAM = chain_of(write(0), write(2), put(0), read(0), fences={3: (1,)})
LONG = ((((write(0), ()), (write(2), (0,))), 10 ** 40), (((put(1), ()), (read(2), ())), 2))
RUN = [do(1), do(2), do(3), send(0, 0), send(1, 0), do(-1)]
TEXT = "write 0 - > 1\nread 0 0 > -"

BAD_RULE = ("rule", RULE[:7], BadRule)
BAD_LONG = ("long_program", LONG[0], BadLong)
BAD_INDEX = ("index", 1 + 10 ** 41, BadIndex)
# The arguments of a good call by name, and for each one that can be wrong what else raises which error, in order.
CALLS = [
    (long_length, {"rule": RULE, "long_program": LONG}, [BAD_RULE, BAD_LONG]),
    (long_operation, {"rule": RULE, "long_program": LONG, "index": 5}, [BAD_RULE, BAD_LONG, BAD_INDEX]),
    (first_behind, {"rule": RULE, "long_program": LONG, "index": 4}, [BAD_RULE, BAD_LONG, BAD_INDEX]),
    (long_ahead, {"rule": RULE, "long_program": LONG, "index": 4, "other": 5}, [
        BAD_RULE, BAD_LONG, BAD_INDEX, ("other", 4, BadIndex),
    ]),
    (first_elder, {"rule": RULE, "long_program": LONG}, [BAD_RULE, BAD_LONG]),
    (Machine, {"rule": RULE, "program": PROGRAM}, [BAD_RULE, ("program", PROGRAM[:3], BadProgram)]),
    (show_rule, {"rule": RULE}, [BAD_RULE]),
    (show_program, {"rule": RULE, "program": PROGRAM}, [BAD_RULE, ("program", PROGRAM[:3], BadProgram)]),
    (show_run, {"run": RUN}, []),
    (read_rule, {"text": "1 2 2 whole free into 0 -"}, [("text", "1 2 2 whole free into 2 -", BadText)]),
    (read_program, {"rule": RULE, "text": TEXT}, [BAD_RULE, ("text", TEXT + "\n", BadText)]),
    (read_run, {"text": "do 0; do ."}, [("text", "do 0; ", BadText)]),
]
METHODS = [
    ("do", {"row": 1}, [("row", 2, BadStep)]), ("send", {"line": 0, "offsets": (0,)}, [("offsets", (1,), BadStep)]),
    ("undo", {}, []), ("state", {}, []), ("run", {}, []), ("steps", {}, []), ("drain", {}, []), ("copy", {}, []),
    ("try_all", {"steps": RUN[1:]}, [("steps", RUN, BadStep)]),
    ("shows", {"question": ("acts",)}, [("question", ("elder", 0), BadQuestion)]),
]


def machine_of(run):
    machine = Machine(RULE, PROGRAM)
    machine.try_all(run)
    return machine


def method_of(name):
    """The method of a machine in which each good call of METHODS can be made."""
    return getattr(machine_of([] if name == "do" else RUN[:1]), name)


class Functions(unittest.TestCase):
    def assert_raises(self, error, call, named):
        with self.assertRaises(error) as caught:
            call(**named)
        self.assertIs(type(caught.exception), error)

    def test_each_is_defined_where_the_interface_lists_it(self):
        homes = {longer: 5, texts: 6}
        for function, _, _ in CALLS:
            if function is not Machine:
                home = inspect.getmodule(function)
                self.assertIs(getattr(home, function.__name__), function)
                homes[home] -= 1
        self.assertEqual(homes, {longer: 0, texts: 0})

    def test_by_the_names_of_the_interface(self):
        for function, named, _ in CALLS:
            parameters = inspect.signature(function).parameters
            self.assertEqual(list(parameters), list(named))
            self.assertEqual({entry.kind for entry in parameters.values()}, {inspect.Parameter.POSITIONAL_OR_KEYWORD})
            self.assertEqual({entry.default for entry in parameters.values()}, {inspect.Parameter.empty})

    def test_by_position_as_by_name(self):
        for function, named, _ in CALLS:
            told = function(**dict(reversed(list(named.items()))))
            self.assertEqual(function(*named.values()), told)
            self.assertEqual(function(list(named.values())[0], **dict(list(named.items())[1:])), told)

    def test_one_argument_spoilt(self):
        for function, named, spoilt in CALLS:
            for name, thing, error in spoilt:
                self.assert_raises(error, function, {**named, name: thing})
                self.assert_raises(error, function, {**named, name: None})
                self.assert_raises(error, function, {**named, name: Strange()})

    def test_two_arguments_spoilt_at_a_time(self):
        for function, named, spoilt in CALLS:
            for (name, thing, error), (other, second, _) in itertools.combinations(spoilt, 2):
                for first in (thing, None):
                    self.assert_raises(error, function, {**named, other: second, name: first})
                    self.assert_raises(error, function, {**named, other: None, name: first})

    def test_a_bool_stands_for_no_integer(self):
        entry = (write(0), ())
        for long_program in (
            (((entry,), True),), ((((("write", True), ()),), 1),), ((((PASS, (True,)),), 1),),
            ((((PASS, (False,)),), 1),),
        ):
            for function, named, spoilt in CALLS[:5]:
                self.assert_raises(BadLong, function, {**named, "long_program": long_program})
        for name in ("index", "other"):
            for function, named, _ in CALLS[1:4]:
                for thing in (True, False):
                    if name in named:
                        self.assert_raises(BadIndex, function, {**named, name: thing})
        for rule in ((True, *RULE[1:]), (*RULE[:4], 0, *RULE[5:]), (*RULE[:4], 1, *RULE[5:])):
            for function, named, spoilt in CALLS:
                if "rule" in named:
                    self.assert_raises(BadRule, function, {**named, "rule": rule})

    def test_arguments_stay_and_are_not_kept(self):
        for function, named, spoilt in CALLS:
            for name, thing, _ in [(None, None, None)] + spoilt:
                passed = copy.deepcopy(named) if name is None else {**copy.deepcopy(named), name: thing}
                before = copy.deepcopy(passed)
                try:
                    first = function(**passed)
                except ValueError:
                    continue
                finally:
                    self.assertEqual(passed, before)
                for value in passed.values():
                    if isinstance(value, list):
                        value.clear()
                self.assertEqual(function(**named), first)

    def test_equal_calls_return_equal_results(self):
        for function, named, _ in CALLS:
            self.assertEqual(function(**named), function(**copy.deepcopy(named)))

    def test_the_kinds_of_values(self):
        kinds = [int, tuple, int, bool, int, Machine, str, str, str, tuple, tuple, list]
        for (function, named, _), kind in zip(CALLS, kinds):
            self.assertIs(type(function(**named)), kind, function)


class Methods(unittest.TestCase):
    def test_by_the_names_of_the_interface(self):
        for name, named, _ in METHODS:
            self.assertEqual(list(inspect.signature(method_of(name)).parameters), list(named))

    def test_by_position_as_by_name(self):
        for name, named, _ in METHODS:
            by_position, by_name = method_of(name), method_of(name)
            self.assertEqual(by_position(*named.values()), by_name(**dict(reversed(list(named.items())))))
            self.assertEqual(by_position.__self__, by_name.__self__)

    def test_arguments_spoilt(self):
        for name, named, spoilt in METHODS:
            for parameter, thing, error in spoilt:
                for wrong in (thing, None, Strange(), True):
                    method = method_of(name)
                    before = method.__self__.copy()
                    with self.assertRaises(error) as caught:
                        method(**{**named, parameter: wrong})
                    self.assertIs(type(caught.exception), error)
                    self.assertEqual(method.__self__, before)
                    self.assertEqual(method.__self__.state(), before.state())

    def test_two_arguments_spoilt(self):
        for line, offsets in ((True, None), (None, (9,)), (9, [0]), ("0", True)):
            with self.assertRaises(BadStep) as caught:
                machine_of(RUN[:1]).send(line, offsets)
            self.assertEqual(caught.exception.place, 0)

    def test_errors_without_arguments(self):
        with self.assertRaises(NothingToUndo):
            Machine(RULE, PROGRAM).undo()
        with self.assertRaises(BadPlace):
            Machine(RULE, PROGRAM)[True]

    def test_what_returns_nothing(self):
        for name, named, _ in METHODS:
            if name in ("send", "undo", "try_all"):
                self.assertIsNone(method_of(name)(**named))

    def test_each_error_stands_alone(self):
        for error, call in (
            (BadCommand, lambda: Desk().say(None)), (BadCommand, lambda: Desk().say(True)),
            (BadText, lambda: Desk().say("rule ")), (BadText, lambda: Desk().say("row ")),
        ):
            with self.assertRaises(error) as caught:
                call()
            self.assertIs(type(caught.exception), error)
