"""Points 27 and 31: edits and records as texts, and which texts are read."""

import random
import re
import unittest

from models import some_text
from pagesatonce.records import read_edit, read_record, write_edit, write_record

ALL_SIGNS = "".join(chr(code) for code in range(32, 127) if code not in (34, 37))
LEAST = (1, 1, 1, 1, 1, 1, 1)
MOST = (3, 100, 4, 100, 400, 200, 2000)

NAME = "[a-z]{1,6}"
NUMBER = "(?:0|[1-9][0-9]{0,6})"
EDIT = re.compile(f'set {NAME} "[ -~]{{0,60}}"|remove {NAME}|pages((?: {NAME}){{0,6}})')
RECORD = re.compile(f"edit {NUMBER} (.*)|version {NUMBER} {NUMBER} {NUMBER}|options((?: {NUMBER}){{7}})")


def is_edit(text):
    """Whether a text is the written form of an edit, in another way than the program tells it."""
    match = EDIT.fullmatch(text)
    if match is None or text.count('"') > 2 or "\x25" in text:
        return False
    names = (match.group(1) or "").split()
    return len(set(names)) == len(names)


def is_record(text):
    match = RECORD.fullmatch(text)
    if match is None:
        return False
    if match.group(1) is not None:
        return is_edit(match.group(1))
    options = [int(word) for word in (match.group(2) or "").split()]
    return all(low <= value <= most for low, value, most in zip(LEAST, options, MOST))


EDITS = [
    (("set", "a", "x"), 'set a "x"'),
    (("set", "a", ""), 'set a ""'),
    (("set", "abcdef", " "), 'set abcdef " "'),
    (("set", "b", "  see <c>, <@d> and [e]!  "), 'set b "  see <c>, <@d> and [e]!  "'),
    (("set", "b", ALL_SIGNS[:60]), f'set b "{ALL_SIGNS[:60]}"'),
    (("set", "b", ALL_SIGNS[60:]), f'set b "{ALL_SIGNS[60:]}"'),
    (("set", "set", "set a"), 'set set "set a"'),
    (("remove", "a"), "remove a"),
    (("remove", "remove"), "remove remove"),
    (("pages", ()), "pages"),
    (("pages", ("b",)), "pages b"),
    (("pages", ("pages", "a", "b", "c", "d", "abcdef")), "pages pages a b c d abcdef"),
]

RECORDS = [
    (("options", LEAST), "options 1 1 1 1 1 1 1"),
    (("options", MOST), "options 3 100 4 100 400 200 2000"),
    (("options", (2, 10, 3, 5, 15, 20, 100)), "options 2 10 3 5 15 20 100"),
    (("edit", 0, ("remove", "a")), "edit 0 remove a"),
    (("edit", 9999999, ("set", "a", "1 2")), 'edit 9999999 set a "1 2"'),
    (("edit", 10, ("pages", ())), "edit 10 pages"),
    (("edit", 12, ("pages", ("a", "b"))), "edit 12 pages a b"),
    (("version", 0, 0, 0), "version 0 0 0"),
    (("version", 1, 20, 300), "version 1 20 300"),
    (("version", 9999999, 9999999, 9999999), "version 9999999 9999999 9999999"),
]


def spoiled(text):
    """Texts that differ from this one in a sign that is left out, put in or changed."""
    for at in range(len(text) + 1):
        yield text[:at] + text[at + 1:]
        for sign in ' "x0!-A\x25':
            yield text[:at] + sign + text[at:]
            yield text[:at] + sign + text[at + 1:]


class Edits(unittest.TestCase):
    def assert_none(self, *texts):
        for text in texts:
            self.assertIsNone(read_edit(text), text)

    def test_written_and_read(self):
        for edit, text in EDITS:
            self.assertEqual(write_edit(edit), text)
            self.assertEqual(read_edit(text), edit)

    def test_texts_that_are_nearly_one(self):
        for _, text in EDITS:
            for other in spoiled(text):
                edit = read_edit(other)
                self.assertEqual(edit is not None, is_edit(other), other)
                if edit is not None:
                    self.assertEqual(write_edit(edit), other)

    def test_spaces(self):
        for _, text in EDITS:
            self.assert_none(" " + text, text + " ")
        self.assert_none('set  a "x"', 'set a  "x"', "remove  a", "pages  a", "pages a  b", "pages ", " pages", " ")

    def test_no_parts_or_too_many(self):
        self.assert_none("", "set", "set ", "set a", "set a ", 'set "x"', 'set "x" a', 'set a "x" "y"', 'set a b "x"')
        self.assert_none("remove", "remove ", "remove a b", 'remove "a"', 'remove a "x"', 'pages "a"', "pages a, b")
        self.assert_none("put a", "sets a", "Set a", 'SET a "x"', 'seta "x"', "removea", "pagesa", "options", "edit")

    def test_quotes(self):
        self.assert_none("set a x", 'set a "x', 'set a x"', 'set a "', 'set a """', 'set a "x"y"', "set a 'x'", 'set a ""x')
        self.assertEqual(read_edit('set a ""'), ("set", "a", ""))

    def test_names_at_and_beyond_their_bounds(self):
        for name in ("a", "z", "abcdef", "zzzzzz"):
            for edit in (("set", name, "x"), ("remove", name), ("pages", (name,)), ("pages", ("q", name))):
                self.assertEqual(read_edit(write_edit(edit)), edit)
        for name in ("", "abcdefg", "A", "a1", "a-b", "{", "`", "1", "<a>"):
            for edit in (("set", name, "x"), ("remove", name), ("pages", (name,)), ("pages", ("q", name))):
                self.assert_none(write_edit(edit))

    def test_texts_at_and_beyond_their_bounds(self):
        for text in ("", " ", "x" * 59, "x" * 60, " " * 60, "~", "!" * 60):
            self.assertEqual(read_edit(write_edit(("set", "a", text))), ("set", "a", text))
        for text in ("x" * 61, '"', 'x"y', "\x25", "a\x25", "\x1f", "\x7f", "\n", "x\ny"):
            self.assert_none(write_edit(("set", "a", text)))

    def test_pages_at_and_beyond_their_bounds(self):
        for names in ((), ("a",), ("b", "a"), ("f", "e", "d", "c", "b", "a")):
            self.assertEqual(read_edit(write_edit(("pages", names))), ("pages", names))
        for names in (("a", "a"), ("a", "b", "a"), tuple("abcdefg"), tuple("abcdef") + ("a",)):
            self.assert_none(write_edit(("pages", names)))

    def test_random_edits(self):
        dice = random.Random(27)
        names = ["a", "bb", "ccc", "dddddd", "e", "f", "g"]
        for _ in range(500):
            edit = dice.choice([
                ("set", dice.choice(names), some_text(dice, names)),
                ("remove", dice.choice(names)),
                ("pages", tuple(dice.sample(names, dice.randrange(7)))),
            ])
            self.assertEqual(read_edit(write_edit(edit)), edit)
            time = dice.randrange(10000000)
            self.assertEqual(read_record(write_record(("edit", time, edit))), ("edit", time, edit))


class Records(unittest.TestCase):
    def assert_none(self, *texts):
        for text in texts:
            self.assertIsNone(read_record(text), text)

    def test_written_and_read(self):
        for record, text in RECORDS:
            self.assertEqual(write_record(record), text)
            self.assertEqual(read_record(text), record)

    def test_each_kind_of_edit(self):
        for edit, text in EDITS:
            self.assertEqual(write_record(("edit", 7, edit)), "edit 7 " + text)
            self.assertEqual(read_record("edit 7 " + text), ("edit", 7, edit))

    def test_texts_that_are_nearly_one(self):
        for _, text in RECORDS:
            for other in spoiled(text):
                record = read_record(other)
                self.assertEqual(record is not None, is_record(other), other)
                if record is not None:
                    self.assertEqual(write_record(record), other)

    def test_no_parts_or_too_many(self):
        self.assert_none("", " ", "options", "options ", "edit", "edit ", "edit 1", "edit 1 ", "version", "version ")
        self.assert_none("version 1 2", "version 1 2 3 4", "options 1 1 1 1 1 1", "options 1 1 1 1 1 1 1 1")
        self.assert_none("edit remove a", "edit a 1", "edit 1 2 remove a", "edit 1 remove", "edit 1 version 1 2 3")
        self.assert_none("edit 1 edit 1 remove a", "remove a", 'set a "x"', "pages", "1 2 3", "versions 1 2 3")

    def test_spaces(self):
        for _, text in RECORDS:
            self.assert_none(" " + text, text + " ", text.replace(" ", "  ", 1), text.replace(" ", "", 1))
        self.assert_none("version 1  2 3", "version 1 2  3", "edit 1  remove a", "options 1 1 1  1 1 1 1")

    def test_numbers(self):
        for word in ("0", "1", "10", "9999999", "1000000"):
            number = int(word)
            self.assertEqual(read_record(f"version {word} 2 3"), ("version", number, 2, 3))
            self.assertEqual(read_record(f"version 1 {word} 3"), ("version", 1, number, 3))
            self.assertEqual(read_record(f"version 1 2 {word}"), ("version", 1, 2, number))
            self.assertEqual(read_record(f"edit {word} pages"), ("edit", number, ("pages", ())))
        for word in ("", "-0", "+0", "-1", "+1", "00", "01", "007", "0000000", "10000000", "99999999", "00000001", "1.0",
                     "1e3", "0x1", "1_0", "a", "one", "1,0", "/", ":", '"1"'):
            self.assert_none(f"version {word} 2 3", f"version 1 {word} 3", f"version 1 2 {word}", f"edit {word} pages")
            self.assert_none(f"options {word} 1 1 1 1 1 1", f"options 1 1 1 1 1 1 {word}")

    def test_options_at_and_beyond_their_bounds(self):
        for at in range(7):
            for options in (LEAST, MOST):
                for value, known in ((LEAST[at] - 1, False), (LEAST[at], True), (MOST[at], True), (MOST[at] + 1, False)):
                    changed = options[:at] + (value,) + options[at + 1:]
                    text = write_record(("options", changed))
                    self.assertEqual(read_record(text), ("options", changed) if known else None)


if __name__ == "__main__":
    unittest.main()
