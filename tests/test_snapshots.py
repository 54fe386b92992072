"""Points 2, 18 and 19: what is known, told, required and renderable for given sources, pages and a cache."""

import random
import unittest

from models import Model, some_pages, some_sources
from pagesatonce.cache import Cache
from pagesatonce.rendering import NOTHING, dependencies, result
from pagesatonce.snapshots import Snapshot


def text(characters, *links):
    return ("text", characters, links)


def add_rendering(cache, sources, name, attempts=2):
    """Adds what a name renders to."""
    found = dependencies(sources, attempts, name)
    cache.add((name, sources[name], tuple(found), result(sources, attempts, name)))


def cached(sources, names):
    cache = Cache()
    for name in names:
        add_rendering(cache, sources, name)
    return cache


class Known(unittest.TestCase):
    def test_a_name_without_a_source(self):
        self.assertEqual(Snapshot({}, (), 2, Cache()).known("a"), NOTHING)
        elder = cached({"a": "x"}, "a")
        self.assertEqual(Snapshot({}, ("a",), 2, elder).known("a"), NOTHING)

    def test_a_name_without_a_rendering(self):
        self.assertIsNone(Snapshot({"a": "x"}, ("a",), 2, Cache()).known("a"))
        self.assertIsNone(Snapshot({"a": ""}, (), 2, Cache()).known("a"))

    def test_a_name_with_a_rendering(self):
        for plain, expected in (("x[b]", text("x[b]", "b")), ("!!", ("failed", "a")), ("", text(""))):
            sources = {"a": plain}
            self.assertEqual(Snapshot(sources, (), 2, cached(sources, "a")).known("a"), expected)

    def test_the_result_is_that_of_the_rendering(self):
        cache = Cache()
        cache.add(("a", "x", (), text("anything")))
        self.assertEqual(Snapshot({"a": "x"}, (), 2, cache).known("a"), text("anything"))

    def test_a_rendering_of_another_text(self):
        cache = cached({"a": "x"}, "a")
        self.assertIsNone(Snapshot({"a": "y"}, (), 2, cache).known("a"))
        add_rendering(cache, {"a": "y"}, "a")
        self.assertEqual(Snapshot({"a": "x"}, (), 2, cache).known("a"), text("x"))
        self.assertEqual(Snapshot({"a": "y"}, (), 2, cache).known("a"), text("y"))

    def test_a_rendering_with_other_dependencies(self):
        sources = {"a": "<b>", "b": "x"}
        cache = cached(sources, "ab")
        self.assertEqual(Snapshot(sources, (), 2, cache).known("a"), text("x"))
        changed = {"a": "<b>", "b": "y"}
        add_rendering(cache, changed, "b")
        snapshot = Snapshot(changed, (), 2, cache)
        self.assertEqual((snapshot.known("a"), snapshot.known("b")), (None, text("y")))
        self.assertIsNone(Snapshot({"a": "<b>"}, (), 2, cache).known("a"))

    def test_dependencies_that_are_not_known(self):
        sources = {"a": "<b>", "b": "<c>", "c": "x"}
        for names, expected in (("ab", (None, None, None)), ("ac", (None, None, text("x")))):
            snapshot = Snapshot(sources, (), 2, cached(sources, names))
            self.assertEqual(tuple(snapshot.known(name) for name in "abc"), expected)

    def test_names_that_are_not_required_are_known_as_well(self):
        sources = {"a": "x", "b": "y"}
        self.assertEqual(Snapshot(sources, ("a",), 2, cached(sources, "b")).known("b"), text("y"))


class Told(unittest.TestCase):
    def test_without_a_source(self):
        self.assertEqual(Snapshot({"b": "<c>"}, (), 2, Cache()).told("a"), [])

    def test_without_dependencies(self):
        self.assertEqual(Snapshot({"a": "[b]x"}, (), 2, Cache()).told("a"), [])

    def test_inclusions_that_are_known_and_not_known(self):
        sources = {"a": "<c><b><d><c>", "b": "x", "c": "y"}
        snapshot = Snapshot(sources, (), 2, cached(sources, "b"))
        self.assertEqual(snapshot.told("a"), [("c", None), ("b", text("x")), ("d", NOTHING), ("c", None)])

    def test_an_indirect_inclusion_through_a_name_that_is_not_known(self):
        sources = {"a": "<@b><c>", "b": "d", "d": "x"}
        self.assertEqual(Snapshot(sources, (), 2, Cache()).told("a"), [("b", None), ("c", NOTHING)])

    def test_an_indirect_inclusion_through_a_name_that_is_known(self):
        sources = {"a": "<@b><c>", "b": "d", "d": "x"}
        snapshot = Snapshot(sources, (), 2, cached(sources, "b"))
        self.assertEqual(snapshot.told("a"), [("b", text("d")), ("d", None), ("c", NOTHING)])
        snapshot = Snapshot(sources, (), 2, cached(sources, "bd"))
        self.assertEqual(snapshot.told("a"), [("b", text("d")), ("d", text("x")), ("c", NOTHING)])

    def test_an_indirect_inclusion_that_leads_to_none(self):
        for plain in ("a", "D", "!!"):
            sources = {"a": "<@b><@z>", "b": plain}
            snapshot = Snapshot(sources, (), 2, cached(sources, "b"))
            self.assertEqual(snapshot.told("a"), [("b", result(sources, 2, "b")), ("z", NOTHING)])


class Required(unittest.TestCase):
    def test_pages_and_what_they_are_told_to_include(self):
        sources = {"a": "<z><@b>", "b": "c", "c": "<d>", "e": "<f>"}
        snapshot = Snapshot(sources, ("y", "a"), 2, Cache())
        self.assertEqual(snapshot.required(), ["a", "b", "y", "z"])
        snapshot = Snapshot(sources, ("y", "a"), 2, cached(sources, "b"))
        self.assertEqual(snapshot.required(), ["a", "b", "c", "d", "y", "z"])

    def test_no_pages(self):
        self.assertEqual(Snapshot({"a": "<b>"}, (), 2, Cache()).required(), [])


class Renderable(unittest.TestCase):
    def test_only_what_is_required_has_a_source_and_is_not_known(self):
        sources = {"a": "<b><c><d>", "b": "x", "c": "y", "e": "z"}
        snapshot = Snapshot(sources, ("a",), 2, cached(sources, "b"))
        self.assertEqual(snapshot.required(), ["a", "b", "c", "d"])
        self.assertEqual(snapshot.renderable(), ["c"])

    def test_all_dependencies_must_be_known(self):
        sources = {"a": "<b><@c>", "b": "x", "c": "d", "d": "y"}
        expected = {"": ["b", "c"], "b": ["c"], "c": ["b", "d"], "bc": ["d"], "cd": ["b"], "bcd": ["a"], "abcd": []}
        for names, renderable in expected.items():
            snapshot = Snapshot(sources, ("a",), 2, cached(sources, names))
            self.assertEqual(snapshot.renderable(), renderable, names)
            self.assertIs(snapshot.is_ready(), names == "abcd", names)

    def test_rising_whatever_the_order_of_the_pages(self):
        sources = {name: "x" for name in "cabed"}
        self.assertEqual(Snapshot(sources, tuple("dbac"), 2, Cache()).renderable(), list("abcd"))


class IsReady(unittest.TestCase):
    def test_without_pages_and_with_pages_without_sources(self):
        self.assertIs(Snapshot({"a": "x"}, (), 2, Cache()).is_ready(), True)
        self.assertIs(Snapshot({"a": "x"}, ("b",), 2, Cache()).is_ready(), True)

    def test_what_is_required_counts(self):
        sources = {"a": "x", "b": "y"}
        self.assertIs(Snapshot(sources, ("a",), 2, cached(sources, "b")).is_ready(), False)
        self.assertIs(Snapshot(sources, ("a",), 2, cached(sources, "a")).is_ready(), True)
        self.assertIs(Snapshot(sources, ("a", "b"), 2, cached(sources, "a")).is_ready(), False)

    def test_results_that_are_no_text_are_known(self):
        sources = {"a": "!!"}
        self.assertIs(Snapshot(sources, ("a",), 2, cached(sources, "a")).is_ready(), True)


class Later(unittest.TestCase):
    def seen(self, snapshot):
        told = [(snapshot.known(name), snapshot.told(name)) for name in "abcd"]
        return (told, snapshot.required(), snapshot.renderable(), snapshot.is_ready())

    def test_changes_of_the_sources_and_of_the_cache_have_no_effect(self):
        sources = {"a": "<b><c>", "b": "x", "c": "y"}
        pages = ["a"]
        cache = cached(sources, "b")
        snapshot = Snapshot(sources, pages, 2, cache)
        before = self.seen(snapshot)
        add_rendering(cache, sources, "c")
        self.assertEqual(self.seen(snapshot), before)
        cache.keep([])
        self.assertEqual(self.seen(snapshot), before)
        sources["a"] = "<d>"
        sources["d"] = "z"
        del sources["b"]
        pages.append("d")
        self.assertEqual(self.seen(snapshot), before)

    def test_arguments_are_not_modified_and_lists_are_new(self):
        sources = {"b": "x", "a": "<b>"}
        cache = cached(sources, "b")
        snapshot = Snapshot(sources, ("a",), 2, cache)
        before = self.seen(snapshot)
        for found in (snapshot.told("a"), snapshot.told("z"), snapshot.required(), snapshot.renderable()):
            found.append("more")
        self.assertEqual(self.seen(snapshot), before)
        self.assertEqual(snapshot.told("z"), [])
        self.assertEqual(list(sources.items()), [("b", "x"), ("a", "<b>")])
        self.assertEqual(cache.renderings("a"), [])


class ManySources(unittest.TestCase):
    def test_rendering_what_is_renderable_leads_to_the_results(self):
        dice = random.Random(18)
        names = list("abcdefg")
        for _ in range(300):
            sources, attempts, pages = some_sources(dice, names), dice.randint(1, 4), some_pages(dice, names)
            model = Model(sources, attempts)
            cache = Cache()
            snapshot = Snapshot(sources, pages, attempts, cache)
            while not snapshot.is_ready():
                name = dice.choice(snapshot.renderable())
                self.assertEqual(snapshot.told(name), model.dependencies(name))
                add_rendering(cache, sources, name, attempts)
                snapshot = Snapshot(sources, pages, attempts, cache)
            self.assertEqual(snapshot.renderable(), [])
            self.assertEqual(snapshot.required(), model.required(pages))
            for name in snapshot.required():
                self.assertEqual(snapshot.known(name), model.result(name))


if __name__ == "__main__":
    unittest.main()
