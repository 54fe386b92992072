"""Point 37: what a mirror shows of the letters that it has heard, and which letters it refuses."""

import itertools
import random
import unittest

from pagesatonce.errors import PageError, UnlikeLetters
from pagesatonce.mirrors import Mirror

EMPTY = (0, 0, 0, (), ())
BEHIND = (("c", ("link", "x")),)
VERSION = (3, 7, 40, (("b", "B"), ("a", "see [b]")), BEHIND)


def page(number, name, text):
    return ("page", number, name, text)


def seal(number, count, time, names=(), behind=()):
    return ("seal", number, count, time, tuple(names), behind)


def letters(version):
    """The letters of a version."""
    number, count, time, pages, behind = version
    return [page(number, *one) for one in pages] + [seal(number, count, time, [name for name, _ in pages], behind)]


def mirror_of(*heard):
    mirror = Mirror()
    for letter in heard:
        mirror.hear(letter)
    return mirror


def shown_of(heard):
    """What a mirror shows that has heard these letters, by the words of the point."""
    texts = {letter[1:3]: letter[3] for letter in heard if letter[0] == "page"}
    complete = []
    for letter in heard:
        if letter[0] == "seal":
            _, number, count, time, names, behind = letter
            if all((number, name) in texts for name in names):
                complete.append((number, count, time, tuple((name, texts[number, name]) for name in names), behind))
    return max(complete, default=EMPTY)


class Showing(unittest.TestCase):
    def test_nothing_was_heard(self):
        mirror = Mirror()
        self.assertEqual(mirror.shown(), EMPTY)
        for name in ("a", "b", ""):
            self.assertIsNone(mirror.page(name))

    def test_letters_in_any_order(self):
        for row in itertools.permutations(letters(VERSION)):
            mirror = Mirror()
            told = [mirror.hear(letter) for letter in row]
            self.assertEqual(told, [False, False, True])
            self.assertEqual(mirror.shown(), VERSION)

    def test_letters_that_are_missing(self):
        for missing in letters(VERSION):
            mirror = Mirror()
            for letter in letters(VERSION):
                if letter != missing:
                    self.assertIs(mirror.hear(letter), False)
            self.assertEqual(mirror.shown(), EMPTY)
            self.assertIsNone(mirror.page("a"))
            self.assertIs(mirror.hear(missing), True)
            self.assertEqual(mirror.shown(), VERSION)

    def test_letters_that_are_doubled(self):
        mirror = Mirror()
        for letter in letters(VERSION):
            mirror.hear(letter)
            self.assertIs(mirror.hear(letter), False)
        for letter in letters(VERSION):
            self.assertIs(mirror.hear(letter), False)
        self.assertEqual(mirror.shown(), VERSION)

    def test_pages_of_another_number_do_not_count(self):
        mirror = mirror_of(page(2, "a", "see [b]"), page(4, "a", "see [b]"), page(3, "b", "B"), letters(VERSION)[-1])
        self.assertEqual(mirror.shown(), EMPTY)

    def test_a_page_that_the_seal_does_not_name(self):
        mirror = mirror_of(page(3, "z", "Z"), *letters(VERSION))
        self.assertEqual(mirror.shown(), VERSION)
        self.assertIsNone(mirror.page("z"))

    def test_page(self):
        mirror = mirror_of(*letters(VERSION), page(4, "a", "new"), page(4, "q", "new"))
        self.assertEqual((mirror.page("a"), mirror.page("b")), ("see [b]", "B"))
        # One that stays behind, one that is linked to, ones of a version that is not complete.
        for name in ("c", "x", "q", "zz"):
            self.assertIsNone(mirror.page(name))

    def test_an_empty_page(self):
        mirror = mirror_of(page(1, "a", ""), seal(1, 1, 1, ["a"]))
        self.assertEqual(mirror.page("a"), "")

    def test_versions_without_pages(self):
        mirror = Mirror()
        self.assertIs(mirror.hear(seal(0, 0, 0)), False)
        self.assertIs(mirror.hear(seal(0, 2, 9)), True)
        self.assertEqual(mirror.shown(), (0, 2, 9, (), ()))
        self.assertIs(mirror.hear(seal(1, 3, 9, (), BEHIND)), True)
        self.assertEqual(mirror.shown(), (1, 3, 9, (), BEHIND))

    def test_a_version_of_the_beginning_at_another_time(self):
        mirror = Mirror()
        self.assertIs(mirror.hear(seal(0, 0, 5)), True)
        self.assertEqual(mirror.shown(), (0, 0, 5, (), ()))

    def test_the_greatest_number(self):
        new = (4, 8, 50, (("a", "A"),), ())
        mirror = mirror_of(*letters(VERSION))
        self.assertIs(mirror.hear(letters(new)[1]), False)
        self.assertEqual(mirror.shown(), VERSION)
        self.assertIs(mirror.hear(letters(new)[0]), True)
        self.assertEqual(mirror.shown(), new)
        self.assertIsNone(mirror.page("b"))

    def test_an_older_version_that_comes_later(self):
        new = (4, 8, 50, (("a", "A"),), ())
        mirror = mirror_of(*letters(new))
        for letter in letters(VERSION):
            self.assertIs(mirror.hear(letter), False)
        self.assertEqual(mirror.shown(), new)

    def test_numbers_come_before_counts(self):
        # Not that a house tells this: the number decides, whatever the counts are.
        mirror = mirror_of(seal(2, 1, 1))
        self.assertIs(mirror.hear(seal(1, 9, 9)), False)
        self.assertEqual(mirror.shown(), (2, 1, 1, (), ()))

    def test_a_version_that_is_published_again(self):
        again = (3, 9, 60, *VERSION[3:])
        mirror = mirror_of(*letters(VERSION))
        self.assertIs(mirror.hear(letters(again)[0]), False)
        self.assertIs(mirror.hear(letters(again)[-1]), True)
        self.assertEqual(mirror.shown(), again)
        self.assertIs(mirror.hear(letters(VERSION)[-1]), False)
        self.assertEqual(mirror.shown(), again)

    def test_a_version_that_is_published_again_and_heard_ahead(self):
        again = (3, 9, 60, *VERSION[3:])
        mirror = mirror_of(letters(again)[-1], letters(VERSION)[-1], letters(VERSION)[0])
        self.assertEqual(mirror.shown(), EMPTY)
        self.assertIs(mirror.hear(letters(VERSION)[1]), True)
        self.assertEqual(mirror.shown(), again)

    def test_mirrors_do_not_share_what_they_heard(self):
        one, other = Mirror(), Mirror()
        for letter in letters(VERSION):
            one.hear(letter)
        self.assertEqual((one.shown(), other.shown()), (VERSION, EMPTY))
        self.assertIs(other.hear(page(3, "a", "another")), False)


class Refused(unittest.TestCase):
    def assert_refused(self, mirror, *unlike):
        before = mirror.shown()
        for letter in unlike:
            with self.assertRaises(UnlikeLetters) as caught:
                mirror.hear(letter)
            self.assertIsInstance(caught.exception, PageError)
            self.assertEqual(mirror.shown(), before)

    def test_a_page_with_another_text(self):
        mirror = mirror_of(page(3, "a", "see [b]"))
        self.assert_refused(mirror, page(3, "a", ""), page(3, "a", "see [b] "), page(3, "a", "B"))
        for letter in (page(3, "a", "see [b]"), page(2, "a", ""), page(3, "b", "")):
            self.assertIs(mirror.hear(letter), False)

    def test_a_page_with_an_empty_text(self):
        mirror = mirror_of(page(3, "a", ""))
        self.assert_refused(mirror, page(3, "a", "x"))

    def test_a_seal_with_other_names(self):
        mirror = mirror_of(seal(3, 7, 40, "ba", BEHIND))
        for count, time in ((7, 40), (8, 41)):
            for names in ("ab", "b", "bac", ""):
                self.assert_refused(mirror, seal(3, count, time, names, BEHIND))

    def test_a_seal_with_another_behind(self):
        mirror = mirror_of(seal(3, 7, 40, "ba", BEHIND))
        for count, time in ((7, 40), (6, 41)):
            for behind in ((), (("c", ("link", "y")),), BEHIND * 2):
                self.assert_refused(mirror, seal(3, count, time, "ba", behind))

    def test_a_seal_with_another_time(self):
        mirror = mirror_of(seal(3, 7, 40, "ba", BEHIND), seal(3, 9, 40, "ba", BEHIND), seal(3, 8, 0, "ba", BEHIND))
        self.assert_refused(mirror, seal(3, 7, 41, "ba", BEHIND), seal(3, 7, 0, "ba", BEHIND))
        self.assert_refused(mirror, seal(3, 9, 39, "ba", BEHIND), seal(3, 8, 1, "ba", BEHIND))
        self.assertIs(mirror.hear(seal(3, 10, 0, "ba", BEHIND)), False)

    def test_seals_of_other_numbers_are_not_compared(self):
        mirror = mirror_of(seal(3, 7, 40, "ba", BEHIND))
        for letter in (seal(2, 7, 41, "a"), seal(4, 7, 39, "")):
            mirror.hear(letter)
        self.assertEqual(mirror.shown(), (4, 7, 39, (), ()))

    def test_a_refused_letter_changes_nothing(self):
        # What is refused in it is not heard in part either: what follows is taken as if it had not come.
        mirror = mirror_of(page(3, "a", "x"), seal(3, 7, 40, "ab"))
        self.assert_refused(mirror, page(3, "a", "y"), seal(3, 8, 41, "a"), seal(3, 9, 42, "ab", BEHIND), seal(3, 7, 41, "ab"))
        self.assertIs(mirror.hear(seal(3, 8, 50, "ab")), False)
        self.assertIs(mirror.hear(seal(3, 9, 60, "ab")), False)
        self.assertIs(mirror.hear(page(3, "b", "z")), True)
        self.assertEqual(mirror.shown(), (3, 9, 60, (("a", "x"), ("b", "z")), ()))
        self.assert_refused(mirror, page(3, "b", "y"), seal(3, 9, 61, "ab"))

    def test_also_of_versions_that_are_not_shown_any_more(self):
        mirror = mirror_of(*letters(VERSION), seal(4, 8, 50))
        self.assert_refused(mirror, page(3, "a", ""), seal(3, 7, 41, "ba", BEHIND), seal(3, 9, 41))
        self.assertEqual(mirror.shown(), (4, 8, 50, (), ()))


class Rows(unittest.TestCase):
    def test_letters_of_many_versions_in_any_order(self):
        dice = random.Random(37)
        for _ in range(200):
            row = []
            number, count, time = 0, 0, 0
            pages, behind = (), ()
            for _ in range(6):
                count, time = count + dice.randint(1, 3), time + dice.randint(0, 9)
                if dice.random() < 0.7:
                    number += 1
                    pages = tuple((name, dice.choice("xyz")) for name in dice.sample("abcd", dice.randint(0, 4)))
                    behind = dice.choice([(), BEHIND])
                row += letters((number, count, time, pages, behind)) * dice.randint(1, 2)
            dice.shuffle(row)
            row = row[:dice.randint(len(row) // 2, len(row))]
            mirror, heard = Mirror(), []
            for letter in row:
                before = mirror.shown()
                changed = mirror.hear(letter)
                heard.append(letter)
                self.assertEqual(mirror.shown(), shown_of(heard))
                self.assertIs(changed, mirror.shown() != before)
                self.assertGreaterEqual(mirror.shown()[:2], before[:2])
                pages = dict(mirror.shown()[3])
                self.assertEqual([mirror.page(name) for name in "abcd"], [pages.get(name) for name in "abcd"])

    def test_letters_that_contradict_one_another(self):
        dice = random.Random(38)
        refused = 0
        for _ in range(200):
            mirror, heard = Mirror(), []
            for _ in range(30):
                number = dice.randint(1, 3)
                letter = dice.choice([
                    page(number, dice.choice("ab"), dice.choice("xxxy")),
                    seal(number, dice.randint(1, 2), dice.choice([5, 5, 5, 6]), dice.choice(["ab", "ab", "a"])),
                ])
                if any(contradict(letter, other) for other in heard):
                    refused += 1
                    before = mirror.shown()
                    self.assertRaises(UnlikeLetters, mirror.hear, letter)
                    self.assertEqual(mirror.shown(), before)
                    continue
                mirror.hear(letter)
                heard.append(letter)
                self.assertEqual(mirror.shown(), shown_of(heard))
        self.assertGreater(refused, 500)


def contradict(one, other):
    """Whether two letters cannot both be right."""
    if one[:2] != other[:2]:
        return False
    if one[0] == "page":
        return one[2] == other[2] and one[3] != other[3]
    return one[4:] != other[4:] or (one[2] == other[2] and one[3] != other[3])


if __name__ == "__main__":
    unittest.main()
