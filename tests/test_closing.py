"""Points 2, 13 and 25: the closed pages, the reasons of those that stay behind, the parts of a version."""

import random
import unittest

from models import Model, closed_by_trying, some_pages, some_sources
from pagesatonce.closing import closed, publish


def text(*links):
    return ("text", "x", links)


class Closed(unittest.TestCase):
    def assert_closed(self, kept, behind, pages, results):
        self.assertEqual(closed(pages, results), (kept, behind))

    def test_no_pages(self):
        self.assert_closed([], [], (), {})

    def test_pages_without_links_in_the_order_of_the_pages(self):
        results = {"a": text(), "b": text(), "c": text()}
        self.assert_closed(["b", "c", "a"], [], ("b", "c", "a"), results)

    def test_links_to_pages(self):
        results = {"a": text("b", "c"), "b": text("c"), "c": text()}
        self.assert_closed(["c", "a", "b"], [], ("c", "a", "b"), results)

    def test_a_page_may_link_to_itself(self):
        self.assert_closed(["a"], [], ("a",), {"a": text("a")})

    def test_a_ring_is_kept_whole(self):
        results = {"a": text("b"), "b": text("c"), "c": text("a")}
        self.assert_closed(["a", "b", "c"], [], ("a", "b", "c"), results)

    def test_a_ring_with_a_link_outside_stays_behind_whole(self):
        results = {"a": text("b"), "b": text("c", "z"), "c": text("a"), "d": text()}
        self.assert_closed(
            ["d"],
            [("a", ("link", "b")), ("b", ("link", "c")), ("c", ("link", "a"))],
            ("a", "b", "c", "d"),
            results,
        )

    def test_a_chain_stays_behind_from_its_end(self):
        results = {"a": text("b"), "b": text("c"), "c": text("d"), "d": text("e"), "e": text("no"), "f": text("f")}
        reasons = [(name, ("link", after)) for name, after in zip("abcd", "bcde")] + [("e", ("link", "no"))]
        self.assert_closed(["f"], reasons, tuple("abcdef"), results)
        self.assert_closed(["f"], reasons[::-1], tuple("fedcba"), results)

    def test_a_link_to_a_name_that_is_no_page(self):
        self.assert_closed([], [("a", ("link", "b"))], ("a",), {"a": text("b")})

    def test_other_results_than_those_of_pages_do_not_count(self):
        self.assert_closed([], [("a", ("link", "b"))], ("a",), {"a": text("b"), "b": text()})

    def test_the_first_link_in_rising_order_that_is_not_kept(self):
        results = {"a": text("b", "c", "d", "e"), "b": text(), "c": ("failed", "c"), "e": text()}
        reasons = [("a", ("link", "c")), ("c", ("failed", "c"))]
        self.assert_closed(["e", "b"], reasons, ("e", "a", "c", "b"), results)

    def test_results_that_are_no_text_are_the_reasons(self):
        results = {"a": ("failed", "z"), "b": ("long", "b"), "c": text()}
        reasons = [("b", ("long", "b")), ("a", ("failed", "z"))]
        self.assert_closed(["c"], reasons, ("b", "c", "a"), results)

    def test_a_link_to_a_page_that_failed_or_is_long(self):
        for outcome in (("failed", "b"), ("long", "c")):
            results = {"a": text("b"), "b": outcome}
            self.assert_closed([], [("a", ("link", "b")), ("b", outcome)], ("a", "b"), results)

    def test_two_sets_make_one(self):
        results = {"a": text("b"), "b": text("a"), "c": text("d"), "d": text("c"), "e": text("a", "d")}
        self.assert_closed(["a", "b", "c", "d", "e"], [], tuple("abcde"), results)

    def test_pages_may_be_a_list(self):
        self.assert_closed(["a"], [("b", ("link", "c"))], ["b", "a"], {"a": text(), "b": text("c")})

    def test_arguments_are_not_modified_and_lists_are_new(self):
        pages = ["a", "b", "c"]
        results = {"a": text(), "b": text("c"), "c": ("failed", "c")}
        kept, behind = closed(pages, results)
        self.assertIsNot(kept, pages)
        kept.append("more")
        behind.append("more")
        self.assertEqual(pages, ["a", "b", "c"])
        self.assertEqual(list(results), ["a", "b", "c"])
        self.assertEqual(results["b"], text("c"))
        self.assertEqual(closed(pages, results)[0], ["a"])
        self.assertEqual(len(closed(pages, results)[1]), 2)

    def test_random_results(self):
        dice = random.Random(13)
        lengths = {}
        for _ in range(3000):
            pages = tuple(dice.sample("abcdef", dice.randrange(7)))
            results = {}
            for name in pages:
                links = sorted(dice.sample("abcdefz", dice.choice([0, 0, 1, 1, 2, 3])))
                results[name] = dice.choice([text(*links)] * 6 + [("failed", "q"), ("long", name)])
            found = closed(pages, results)
            self.assertEqual(found, closed_by_trying(pages, results), (pages, results))
            lengths[len(found[0])] = True
        self.assertEqual(sorted(lengths), list(range(7)))


class Publish(unittest.TestCase):
    def test_nothing(self):
        self.assertEqual(publish({}, 1, ()), ((), ()))
        self.assertEqual(publish({"a": "x"}, 1, ()), ((), ()))

    def test_pages_with_what_they_render_to(self):
        sources = {"a": "see [b]: <c>", "b": "<@d>", "c": "C", "d": "e", "e": "E"}
        self.assertEqual(publish(sources, 1, ("b", "a")), ((("b", "E"), ("a", "see [b]: C")), ()))

    def test_a_page_without_a_source(self):
        self.assertEqual(publish({}, 1, ("z", "a")), ((("z", "?"), ("a", "?")), ()))

    def test_pages_that_stay_behind(self):
        sources = {"a": "[b]", "b": "<c>", "c": "!!", "d": "<e><e><e><e>", "e": "x" * 51, "f": "[z]"}
        self.assertEqual(
            publish(sources, 2, ("f", "e", "d", "b", "a")),
            (
                (("e", "x" * 51),),
                (
                    ("f", ("link", "z")),
                    ("d", ("long", "d")),
                    ("b", ("failed", "c")),
                    ("a", ("link", "b")),
                ),
            ),
        )
        self.assertEqual(publish(sources, 3, ("a", "b")), ((("a", "[b]"), ("b", "!!")), ()))

    def test_both_are_tuples(self):
        pages, behind = publish({"a": "[b]"}, 1, ["a", "c"])
        self.assertIsInstance(pages, tuple)
        self.assertIsInstance(behind, tuple)
        self.assertEqual((pages, behind), ((("c", "?"),), (("a", ("link", "b")),)))

    def test_arguments_are_not_modified(self):
        sources = {"b": "[z]", "a": "x"}
        pages = ["b", "a"]
        publish(sources, 1, pages)
        self.assertEqual(list(sources.items()), [("b", "[z]"), ("a", "x")])
        self.assertEqual(pages, ["b", "a"])

    def test_random_sources(self):
        dice = random.Random(25)
        names = ["a", "b", "c", "d", "e", "f", "g"]
        for _ in range(1000):
            sources = some_sources(dice, names)
            pages = some_pages(dice, names)
            attempts = dice.randint(1, 4)
            expected = Model(sources, attempts).publish(pages)
            self.assertEqual(publish(sources, attempts, pages), expected, (sources, pages, attempts))


if __name__ == "__main__":
    unittest.main()
