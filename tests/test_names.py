"""Points 2, 4 and 5: names, texts, their order and their bounds."""

import unittest

from pagesatonce import names
from pagesatonce.names import are_pages, failures, is_after, is_name, is_text

LETTERS = "abcdefghijklmnopqrstuvwxyz"


class Bounds(unittest.TestCase):
    def test_the_bounds_are_those_of_the_document(self):
        self.assertEqual(names.NAME_MOST, 6)
        self.assertEqual(names.TEXT_MOST, 60)
        self.assertEqual(names.SOURCES_MOST, 12)
        self.assertEqual(names.PAGES_MOST, 6)


class IsName(unittest.TestCase):
    def test_one_to_six_letters_are_a_name(self):
        for many in range(1, 7):
            self.assertIs(is_name("abcxyz"[:many]), True, many)

    def test_each_letter_is_a_name(self):
        for letter in LETTERS:
            self.assertIs(is_name(letter), True, letter)

    def test_the_same_letter_may_occur_often(self):
        self.assertIs(is_name("aaaaaa"), True)

    def test_nothing_and_seven_letters_are_no_name(self):
        self.assertIs(is_name(""), False)
        self.assertIs(is_name("abcdefg"), False)
        self.assertIs(is_name("a" * 100), False)

    def test_only_letters_from_a_to_z_make_a_name(self):
        others = [chr(code) for code in range(256) if chr(code) not in LETTERS]
        for sign in others + ["\u0430", "\uff41"]:
            for text in (sign, "ab" + sign, sign + "ab", "a" + sign + "b"):
                self.assertIs(is_name(text), False, repr(text))


class IsText(unittest.TestCase):
    def test_ordinary_texts(self):
        for text in ("a", "Hello, World!", "x<c><@d>y<a>[b]", " ~ ", "' \\ 0129 AZ"):
            self.assertIs(is_text(text), True, text)

    def test_up_to_sixty_characters(self):
        self.assertIs(is_text(""), True)
        self.assertIs(is_text("x" * 59), True)
        self.assertIs(is_text("x" * 60), True)
        self.assertIs(is_text("x" * 61), False)
        self.assertIs(is_text("x" * 1000), False)

    def test_each_character_from_the_space_to_the_tilde_but_two(self):
        for code in range(256):
            allowed = 32 <= code <= 126 and code not in (37, 34)
            for text in (chr(code), "ab" + chr(code), chr(code) + "ab"):
                self.assertIs(is_text(text), allowed, repr(text))

    def test_no_percent_sign_and_no_double_quote(self):
        self.assertIs(is_text("100%"), False)
        self.assertIs(is_text('say "a"'), False)

    def test_no_newline_and_nothing_beyond_the_tilde(self):
        self.assertIs(is_text("one\ntwo"), False)
        self.assertIs(is_text("one\n"), False)
        self.assertIs(is_text("\t"), False)
        self.assertIs(is_text("\x7f"), False)
        self.assertIs(is_text("\u20ac"), False)


class IsAfter(unittest.TestCase):
    def test_the_greater_name_comes_after(self):
        self.assertIs(is_after("b", "a"), True)
        self.assertIs(is_after("a", "b"), False)
        self.assertIs(is_after("abd", "abc"), True)
        self.assertIs(is_after("abc", "abd"), False)

    def test_the_first_letter_that_differs_decides_not_the_length(self):
        self.assertIs(is_after("b", "azzzzz"), True)
        self.assertIs(is_after("azzzzz", "b"), False)

    def test_equal_names(self):
        self.assertIs(is_after("a", "a"), False)
        self.assertIs(is_after("abcdef", "abcdef"), False)

    def test_a_name_comes_after_its_own_beginning(self):
        self.assertIs(is_after("ab", "a"), True)
        self.assertIs(is_after("a", "ab"), False)
        self.assertIs(is_after("abcdef", "abcde"), True)
        self.assertIs(is_after("abcde", "abcdef"), False)


class ArePages(unittest.TestCase):
    def test_no_name_one_name_and_several(self):
        self.assertIs(are_pages([]), True)
        self.assertIs(are_pages(["a"]), True)
        self.assertIs(are_pages(["c", "a", "b"]), True)

    def test_at_most_six(self):
        self.assertIs(are_pages(list("abcdef")), True)
        self.assertIs(are_pages(list("fedcba")), True)
        self.assertIs(are_pages(list("abcdefg")), False)
        self.assertIs(are_pages(list(LETTERS)), False)

    def test_different_names(self):
        self.assertIs(are_pages(["a", "a"]), False)
        self.assertIs(are_pages(["a", "b", "a"]), False)
        self.assertIs(are_pages(["a", "b", "c", "d", "e", "a"]), False)
        self.assertIs(are_pages(["a", "ab"]), True)

    def test_nothing_but_names(self):
        for wrong in ("", "A", "a1", "abcdefg", "a b", "<a>"):
            self.assertIs(are_pages([wrong]), False, wrong)
            self.assertIs(are_pages([wrong, "a", "b"]), False, wrong)
            self.assertIs(are_pages(["a", wrong, "b"]), False, wrong)
            self.assertIs(are_pages(["a", "b", wrong]), False, wrong)

    def test_tuples_as_well_as_lists(self):
        self.assertIs(are_pages(()), True)
        self.assertIs(are_pages(("b", "a")), True)
        self.assertIs(are_pages(("b", "b")), False)
        self.assertIs(are_pages(tuple("abcdefg")), False)
        self.assertIs(are_pages(("b", "B")), False)

    def test_the_argument_is_not_modified(self):
        for given in (["c", "a", "b"], ["b", "a", "b"], ["b", "B", "a"], list("gfedcba")):
            before = list(given)
            are_pages(given)
            self.assertEqual(given, before)


class Failures(unittest.TestCase):
    def test_the_number_of_exclamation_marks(self):
        self.assertEqual(failures(""), 0)
        self.assertEqual(failures("hello? <c> 1"), 0)
        self.assertEqual(failures("hello!"), 1)
        self.assertEqual(failures("!hello"), 1)
        self.assertEqual(failures("!a!b!"), 3)
        self.assertEqual(failures("a!!b"), 2)
        self.assertEqual(failures("!" * 60), 60)

    def test_within_inclusions_and_links_too(self):
        self.assertEqual(failures("<c!>[b!]!"), 3)

    def test_it_is_an_integer(self):
        for text in ("", "!", "!!"):
            self.assertIs(type(failures(text)), int, text)


class Place(unittest.TestCase):
    def test_each_function_is_defined_in_its_file(self):
        for function in (is_name, is_text, is_after, are_pages, failures):
            self.assertEqual(function.__module__, "pagesatonce.names")


if __name__ == "__main__":
    unittest.main()
