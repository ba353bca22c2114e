import inspect
import unittest

from heldwrites import errors

ONE_TEXT = (
    "BadRule", "BadProgram", "BadQuestion", "BadSpot", "TooMany", "NotEnough", "UnlikeRules",
    "BadLong", "BadIndex", "NothingToUndo", "BadPlace", "BadCommand",
)
ALL_BUT_BASE = ONE_TEXT + ("BadStep", "BadText")


class TheClasses(unittest.TestCase):
    def test_the_base_is_a_value_error(self):
        self.assertEqual(errors.GatherError.__bases__, (ValueError,))

    def test_each_stands_directly_under_the_base(self):
        for name in ALL_BUT_BASE:
            with self.subTest(name):
                self.assertEqual(getattr(errors, name).__bases__, (errors.GatherError,))

    def test_none_stands_under_another(self):
        for name in ALL_BUT_BASE:
            for other in ALL_BUT_BASE:
                with self.subTest(name, other=other):
                    under = issubclass(getattr(errors, name), getattr(errors, other))
                    self.assertEqual(under, name == other)

    def test_there_are_fifteen_and_all_are_defined_here(self):
        classes = inspect.getmembers(errors, inspect.isclass)
        self.assertEqual(sorted(name for name, _ in classes), sorted(ALL_BUT_BASE + ("GatherError",)))
        for name, found in classes:
            self.assertEqual(found.__module__, "heldwrites.errors", name)
            self.assertEqual(found.__name__, name)

    def test_each_is_caught_as_the_base(self):
        for name in ONE_TEXT:
            with self.assertRaises(errors.GatherError):
                raise getattr(errors, name)("a text")
        with self.assertRaises(errors.GatherError):
            raise errors.BadStep(0)
        with self.assertRaises(errors.GatherError):
            raise errors.BadText(0)


class TheFields(unittest.TestCase):
    def test_those_without_a_field_are_made_with_one_text(self):
        for name in ONE_TEXT + ("GatherError",):
            self.assertEqual(str(getattr(errors, name)("a text")), "a text", name)

    def test_bad_step_has_its_place(self):
        for place in (0, 7, 999):
            self.assertEqual(errors.BadStep(place).place, place)
            self.assertEqual(errors.BadStep(place=place).place, place)

    def test_bad_text_has_its_line(self):
        for line in (0, 8):
            self.assertEqual(errors.BadText(line).line, line)
            self.assertEqual(errors.BadText(line=line).line, line)

    def test_a_field_belongs_to_its_object(self):
        first, second = errors.BadStep(1), errors.BadStep(2)
        self.assertEqual((first.place, second.place), (1, 2))

    def test_a_field_is_asked_for(self):
        for name in ("BadStep", "BadText"):
            with self.assertRaises(TypeError):
                getattr(errors, name)()
