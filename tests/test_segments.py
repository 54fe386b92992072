"""Points 2, 6 and 7: the segments of the text of a name."""

import itertools
import re
import unittest

from pagesatonce.segments import join, split

SPECIAL = re.compile(r"<(@?)([a-z]{1,6})>|\[([a-z]{1,6})\]")


def special_segment(name, match):
    """The segment that a match of SPECIAL is, or None if it stays plain."""
    if match.group(3) is not None:
        return ("link", match.group(3))
    if match.group(2) <= name:
        return None
    return ("indirect" if match.group(1) else "include", match.group(2))


def expected_segments(name, text):
    """The segments of a text, found in another way than the program does."""
    segments = []
    done = 0
    for match in SPECIAL.finditer(text):
        special = special_segment(name, match)
        if special is not None:
            if done < match.start():
                segments.append(("text", text[done:match.start()]))
            segments.append(special)
            done = match.end()
    if done < len(text):
        segments.append(("text", text[done:]))
    return segments


class SegmentCase(unittest.TestCase):
    def assert_plain(self, name, text):
        self.assertEqual(split(name, text), [("text", text)], text)


class Examples(SegmentCase):
    def test_each_kind_of_segment(self):
        self.assertEqual(
            split("b", "x<c><@d>y<a>[b]"),
            [("text", "x"), ("include", "c"), ("indirect", "d"), ("text", "y<a>"), ("link", "b")],
        )

    def test_a_sign_before_an_inclusion(self):
        self.assertEqual(split("b", "<<c>"), [("text", "<"), ("include", "c")])

    def test_a_space_and_a_long_name(self):
        self.assertEqual(split("b", "<@ c><abcdefg>"), [("text", "<@ c><abcdefg>")])


class Ordinary(SegmentCase):
    def test_no_characters_have_no_segments(self):
        self.assertEqual(split("b", ""), [])

    def test_plain_characters_are_one_segment(self):
        for text in ("x", "hello world!", "a>b]c@d", "c", "@c", "~ ~"):
            self.assert_plain("b", text)

    def test_a_single_segment_of_each_kind(self):
        self.assertEqual(split("b", "<c>"), [("include", "c")])
        self.assertEqual(split("b", "<@c>"), [("indirect", "c")])
        self.assertEqual(split("b", "[c]"), [("link", "c")])

    def test_segments_directly_behind_one_another(self):
        self.assertEqual(
            split("b", "<c><c><@c><@c>[c][c]"),
            [("include", "c"), ("include", "c"), ("indirect", "c"), ("indirect", "c"),
             ("link", "c"), ("link", "c")],
        )

    def test_plain_characters_around_and_between(self):
        self.assertEqual(
            split("b", "one <c> two [a] three"),
            [("text", "one "), ("include", "c"), ("text", " two "), ("link", "a"),
             ("text", " three")],
        )

    def test_segments_are_tuples_in_a_list(self):
        segments = split("b", "x<c><@c>[c]")
        self.assertIs(type(segments), list)
        for segment in segments:
            self.assertIs(type(segment), tuple, segment)


class Names(SegmentCase):
    def test_a_name_before_the_name_is_no_inclusion(self):
        for inner in ("a", "azzzzz"):
            self.assert_plain("b", f"<{inner}>")
            self.assert_plain("b", f"<@{inner}>")
            self.assertEqual(split("b", f"[{inner}]"), [("link", inner)])

    def test_the_name_itself_is_no_inclusion(self):
        for name in ("b", "abcdef"):
            self.assert_plain(name, f"<{name}>")
            self.assert_plain(name, f"<@{name}>")
            self.assertEqual(split(name, f"[{name}]"), [("link", name)])

    def test_a_name_after_the_name_is_an_inclusion(self):
        for inner in ("c", "ba", "zzzzzz"):
            self.assertEqual(split("b", f"<{inner}>"), [("include", inner)])
            self.assertEqual(split("b", f"<@{inner}>"), [("indirect", inner)])
            self.assertEqual(split("b", f"[{inner}]"), [("link", inner)])

    def test_a_name_and_its_own_beginning(self):
        self.assertEqual(split("b", "<bb>"), [("include", "bb")])
        self.assertEqual(split("b", "<@bb>"), [("indirect", "bb")])
        self.assert_plain("bb", "<b>")
        self.assert_plain("bb", "<@b>")

    def test_six_letters_are_a_name_and_seven_are_none(self):
        self.assertEqual(split("b", "<cdefgh>"), [("include", "cdefgh")])
        self.assertEqual(split("b", "<@cdefgh>"), [("indirect", "cdefgh")])
        self.assertEqual(split("b", "[abcdef]"), [("link", "abcdef")])
        self.assert_plain("b", "<cdefghi>")
        self.assert_plain("b", "<@cdefghi>")
        self.assert_plain("b", "[abcdefg]")

    def test_other_signs_make_no_name(self):
        for inner in ("", "C", "c1", "c-d", "c d", " c", "c ", "@", "@@c", "c@", "c\n"):
            for text in (f"<{inner}>", f"<@{inner}>", f"[{inner}]", f"[@{inner}]"):
                self.assert_plain("b", text)


class Unfinished(SegmentCase):
    def test_the_text_ends_too_early(self):
        for text in ("<", "<@", "[", "<c", "<@c", "[c", "<cdefgh", "<@cdefgh", "[cdefgh"):
            self.assert_plain("b", text)
            self.assert_plain("b", "x" + text)

    def test_the_end_is_missing(self):
        for text in ("<c]", "<@c]", "[c>", "<c <", "c>", "@c>", "c]", "<>", "<@>", "[]", "< c>",
                     "<c >", "[ c]", "<@ c>", "< @c>", "[@c]"):
            self.assert_plain("b", text)
            self.assert_plain("b", "x" + text + "y")

    def test_an_unfinished_one_before_a_finished_one(self):
        for begin in ("<", "<@", "[", "<c", "<@c", "[c", "<a>", "<@b>", "<cdefghi>", "<<", "<@<"):
            for end, segment in (("<c>", "include"), ("<@c>", "indirect"), ("[c]", "link")):
                self.assertEqual(
                    split("b", begin + end), [("text", begin), (segment, "c")], begin + end)

    def test_an_unfinished_one_behind_a_finished_one(self):
        for end in ("<", "<@", "[", "<c", "<@c", "[c", ">", "]"):
            self.assertEqual(split("b", "<c>" + end), [("include", "c"), ("text", end)], end)


class First(SegmentCase):
    def test_a_segment_begins_at_the_first_place_where_it_can(self):
        self.assertEqual(split("b", "[<c>]"), [("text", "["), ("include", "c"), ("text", "]")])
        self.assertEqual(split("b", "<[c]>"), [("text", "<"), ("link", "c"), ("text", ">")])
        self.assertEqual(split("b", "<@<c>>"), [("text", "<@"), ("include", "c"), ("text", ">")])
        self.assertEqual(split("b", "<@[c]"), [("text", "<@"), ("link", "c")])
        self.assertEqual(split("b", "<c<d>e>"), [("text", "<c"), ("include", "d"), ("text", "e>")])
        self.assertEqual(split("b", "[c[d]e]"), [("text", "[c"), ("link", "d"), ("text", "e]")])

    def test_what_is_no_inclusion_joins_the_plain_characters_around_it(self):
        self.assert_plain("b", "x<a>y<@b>z<cdefghi>")
        self.assert_plain("b", "<a><a>")


class EveryText(SegmentCase):
    def check(self, name, text):
        segments = split(name, text)
        self.assertEqual(segments, expected_segments(name, text), (name, text))
        self.assertEqual(join(segments), text)
        kinds = [kind for kind, _ in segments]
        self.assertNotIn(("text", "text"), list(zip(kinds, kinds[1:])), text)
        self.assertNotIn("", [characters for _, characters in segments], text)

    def test_short_texts_of_the_signs_that_matter(self):
        for many in range(6):
            for signs in itertools.product("<>@[]bc", repeat=many):
                self.check("b", "".join(signs))

    def test_rows_of_parts(self):
        parts = ("<c>", "<@c>", "[c]", "<a>", "<@b>", "<", "<@", "[", "x", "<cdefghi>", " ")
        for row in itertools.product(parts, repeat=4):
            self.check("b", "".join(row))

    def test_long_texts(self):
        self.check("b", "<" * 57 + "<c>")
        self.check("b", "<c>" * 20)
        self.check("b", "x" * 60)
        self.check("b", "<@c>x" * 50)


class Join(SegmentCase):
    def test_no_segments(self):
        self.assertEqual(join([]), "")

    def test_each_kind_of_segment(self):
        self.assertEqual(join([("text", "x y")]), "x y")
        self.assertEqual(join([("include", "c")]), "<c>")
        self.assertEqual(join([("indirect", "c")]), "<@c>")
        self.assertEqual(join([("link", "c")]), "[c]")

    def test_several_segments_in_their_order(self):
        segments = [("link", "b"), ("text", "y<a>"), ("indirect", "d"), ("include", "c")]
        self.assertEqual(join(segments), "[b]y<a><@d><c>")


class Lists(SegmentCase):
    def test_each_returned_list_is_new(self):
        first = split("b", "x<c>[b]")
        first.append(("text", "more"))
        first[0] = ("text", "other")
        second = split("b", "x<c>[b]")
        self.assertEqual(second, [("text", "x"), ("include", "c"), ("link", "b")])
        self.assertIsNot(split("b", "x"), split("b", "x"))
        self.assertIsNot(split("b", ""), split("b", ""))
        split("b", "").append(("text", "more"))
        self.assertEqual(split("b", ""), [])

    def test_join_does_not_modify_its_argument(self):
        given = [("text", "x"), ("include", "c"), ("indirect", "d"), ("link", "b")]
        before = list(given)
        join(given)
        self.assertEqual(given, before)


class Place(SegmentCase):
    def test_each_function_is_defined_in_its_file(self):
        for function in (split, join):
            self.assertEqual(function.__module__, "pagesatonce.segments")


if __name__ == "__main__":
    unittest.main()
