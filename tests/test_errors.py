"""The errors of the interface."""

import unittest

from pagesatonce import errors
from pagesatonce.errors import (
    LogFull, NoLetter, NotKept, NotOpen, OutOfRange, PageError, PowerCut, TooManySources,
    UnlikeLetters)

PLAIN = (TooManySources, NotKept, NotOpen, LogFull, PowerCut, NoLetter, UnlikeLetters)


class Bases(unittest.TestCase):
    def test_the_base_class_of_all_is_a_value_error(self):
        self.assertEqual(PageError.__bases__, (ValueError,))

    def test_each_other_class_derives_from_it_alone(self):
        for kind in PLAIN + (OutOfRange,):
            self.assertEqual(kind.__bases__, (PageError,), kind)

    def test_there_are_no_two_names_for_one_class(self):
        self.assertEqual(len({PageError, OutOfRange, *PLAIN}), 9)

    def test_each_class_is_defined_in_its_file_under_its_name(self):
        for kind in PLAIN + (OutOfRange, PageError):
            self.assertEqual(kind.__module__, "pagesatonce.errors")
            self.assertIs(getattr(errors, kind.__name__), kind)


class Fields(unittest.TestCase):
    def test_out_of_range_has_its_name(self):
        for name in ("options", "at", "name", ""):
            self.assertEqual(OutOfRange(name).name, name)

    def test_the_name_is_its_only_field(self):
        self.assertEqual(vars(OutOfRange("options")), {"name": "options"})

    def test_each_error_has_the_name_that_it_was_made_with(self):
        one, other = OutOfRange("at"), OutOfRange("block")
        self.assertEqual((one.name, other.name), ("at", "block"))

    def test_out_of_range_defines_its_own_init_with_one_argument(self):
        self.assertIn("__init__", vars(OutOfRange))
        self.assertEqual(OutOfRange(name="at").name, "at")
        with self.assertRaises(TypeError):
            OutOfRange()
        with self.assertRaises(TypeError):
            OutOfRange("at", "block")

    def test_out_of_range_tells_its_name_in_its_message(self):
        self.assertIn("options", str(OutOfRange("options")))

    def test_the_others_are_made_with_one_string_and_have_no_fields(self):
        for kind in PLAIN + (PageError,):
            error = kind("what went wrong")
            self.assertEqual(str(error), "what went wrong")
            self.assertEqual(vars(error), {})


class Caught(unittest.TestCase):
    def test_each_error_is_caught_by_its_class_and_the_base_class(self):
        for kind in PLAIN + (OutOfRange,):
            for wanted in (kind, PageError, ValueError):
                with self.assertRaises(wanted):
                    raise kind("what")

    def test_no_error_is_caught_by_another_class(self):
        for kind in PLAIN + (OutOfRange,):
            for other in PLAIN + (OutOfRange,):
                self.assertEqual(isinstance(kind("what"), other), kind is other)


if __name__ == "__main__":
    unittest.main()
