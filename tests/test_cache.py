"""Points 2 and 17: renderings, and what a cache keeps of them."""

import unittest

from pagesatonce import cache
from pagesatonce.cache import Cache

B = ("b", ("text", "B", ()))
C = ("c", ("failed", "c"))


def rendering(name, text, *dependencies):
    return (name, text, dependencies, ("text", f"{text} of {name}", ()))


def filled(*renderings):
    made = Cache()
    for one in renderings:
        made.add(one)
    return made


class Add(unittest.TestCase):
    def test_the_number_of_renderings_that_are_kept(self):
        self.assertEqual(cache.RENDERINGS_MOST, 4)

    def test_none_at_first(self):
        self.assertEqual(Cache().renderings("a"), [])

    def test_one(self):
        made = Cache()
        self.assertIsNone(made.add(rendering("a", "x")))
        self.assertEqual(made.renderings("a"), [rendering("a", "x")])
        self.assertEqual(made.renderings("b"), [])

    def test_four_with_the_last_one_first(self):
        four = [rendering("a", text) for text in "1234"]
        self.assertEqual(filled(*four).renderings("a"), four[::-1])

    def test_of_five_the_first_one_goes(self):
        five = [rendering("a", text) for text in "12345"]
        self.assertEqual(filled(*five).renderings("a"), five[:0:-1])
        self.assertIsNone(filled(*five).find("a", "1", []))

    def test_each_name_has_its_own(self):
        made = filled(*[rendering(name, text) for text in "12345" for name in ("a", "b")], rendering("c", "1"))
        self.assertEqual(made.renderings("a"), [rendering("a", text) for text in "5432"])
        self.assertEqual(made.renderings("b"), [rendering("b", text) for text in "5432"])
        self.assertEqual(made.renderings("c"), [rendering("c", "1")])

    def test_one_added_again_becomes_the_last_one_and_stands_once(self):
        one, two, three, four, five = [rendering("a", text) for text in "12345"]
        made = filled(one, two, three, four, one)
        self.assertEqual(made.renderings("a"), [one, four, three, two])
        made.add(four)
        self.assertEqual(made.renderings("a"), [four, one, three, two])
        made.add(four)
        self.assertEqual(made.renderings("a"), [four, one, three, two])
        made.add(five)
        self.assertEqual(made.renderings("a"), [five, four, one, three])

    def test_other_dependencies_make_another_rendering(self):
        one, two = rendering("a", "x", B), rendering("a", "x", B, C)
        self.assertEqual(filled(one, two).renderings("a"), [two, one])


class Find(unittest.TestCase):
    def test_with_the_same_text_and_dependencies(self):
        made = filled(rendering("a", "x", B, C), rendering("a", "y"), rendering("b", "x"))
        self.assertEqual(made.find("a", "x", [B, C]), ("text", "x of a", ()))
        self.assertEqual(made.find("a", "y", []), ("text", "y of a", ()))
        self.assertEqual(made.find("b", "x", []), ("text", "x of b", ()))

    def test_with_another_text(self):
        made = filled(rendering("a", "x", B))
        self.assertIsNone(made.find("a", "", [B]))
        self.assertIsNone(made.find("a", "x ", [B]))

    def test_with_other_dependencies(self):
        made = filled(rendering("a", "x", B, C))
        others = ([], [B], [C, B], [B, B, C], [B, C, C], [("b", None), C], [("b", ("text", "B", ("c",))), C])
        for found in others:
            self.assertIsNone(made.find("a", "x", found), found)

    def test_with_another_name(self):
        made = filled(rendering("a", "x"))
        self.assertIsNone(made.find("b", "x", []))
        self.assertIsNone(Cache().find("a", "x", []))

    def test_the_elder_ones_are_found_too(self):
        made = filled(*[rendering("a", text) for text in "1234"])
        for text in "1234":
            self.assertEqual(made.find("a", text, []), ("text", f"{text} of a", ()))


class Keep(unittest.TestCase):
    def test_renderings_of_other_names_are_removed(self):
        made = filled(*[rendering(name, text) for name in "abc" for text in "12"])
        self.assertIsNone(made.keep(["c", "a", "z"]))
        self.assertEqual(made.renderings("a"), [rendering("a", "2"), rendering("a", "1")])
        self.assertEqual(made.renderings("b"), [])
        self.assertEqual(made.renderings("c"), [rendering("c", "2"), rendering("c", "1")])
        self.assertIsNone(made.find("b", "1", []))
        self.assertEqual(made.renderings("z"), [])

    def test_all_of_them(self):
        made = filled(rendering("a", "1"))
        made.keep([])
        self.assertEqual(made.renderings("a"), [])
        made.add(rendering("a", "2"))
        self.assertEqual(made.renderings("a"), [rendering("a", "2")])


class Lists(unittest.TestCase):
    def test_they_are_new_and_arguments_stay(self):
        made = filled(rendering("a", "x", B))
        made.renderings("a").append("more")
        self.assertEqual(made.renderings("a"), [rendering("a", "x", B)])
        nothing = made.renderings("z")
        nothing.append("more")
        self.assertEqual(made.renderings("z"), [])
        found, names = [B], ["a"]
        made.find("a", "x", found)
        made.keep(names)
        self.assertEqual((found, names), ([B], ["a"]))
        names.append("b")
        made.add(rendering("b", "y"))
        names.clear()
        self.assertEqual(made.renderings("a"), [rendering("a", "x", B)])


if __name__ == "__main__":
    unittest.main()
