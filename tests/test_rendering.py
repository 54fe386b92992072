"""Points 2 and 8 to 12: results, dependencies, the result of a name, the required names."""

import random
import unittest

from models import Model, some_pages, some_sources
from pagesatonce import rendering
from pagesatonce.rendering import NOTHING, dependencies, join_result, required, result


def text(characters, *links):
    return ("text", characters, links)


class RenderingCase(unittest.TestCase):
    def assert_result(self, expected, sources, name="a", attempts=2):
        self.assertEqual(result(sources, attempts, name), expected)

    def assert_dependencies(self, expected, sources, name="a", attempts=2):
        self.assertEqual(dependencies(sources, attempts, name), expected)


class Bounds(unittest.TestCase):
    def test_the_constants_are_those_of_the_document(self):
        self.assertEqual(rendering.RESULT_MOST, 200)
        self.assertEqual(rendering.NOTHING, ("text", "?", ()))


class WithoutASource(RenderingCase):
    def test_the_result_is_nothing(self):
        self.assert_result(("text", "?", ()), {})
        self.assert_result(("text", "?", ()), {"b": "x", "aa": "y"})
        for attempts in (1, 2, 3, 4):
            self.assert_result(NOTHING, {}, attempts=attempts)

    def test_there_are_no_dependencies(self):
        self.assert_dependencies([], {})
        self.assert_dependencies([], {"b": "<c>", "c": "x"})


class Plain(RenderingCase):
    def test_a_plain_text_stays_as_it_is(self):
        for plain in ("", "x", "Hello, World", "<a>", "<b", "<@ b>", "< [ >", "[abcdefg]", "x" * 60):
            self.assert_result(text(plain), {"a": plain})
            self.assert_dependencies([], {"a": plain})

    def test_an_empty_text_is_a_source(self):
        self.assert_result(text(""), {"a": ""})


class Inclusions(RenderingCase):
    def test_the_characters_of_an_included_text(self):
        sources = {"a": "x<b>y", "b": "mid"}
        self.assert_result(text("xmidy"), sources)
        self.assert_dependencies([("b", text("mid"))], sources)

    def test_an_included_name_without_a_text(self):
        self.assert_result(text("x?y"), {"a": "x<b>y"})
        self.assert_dependencies([("b", NOTHING)], {"a": "x<b>y"})

    def test_inclusions_of_inclusions(self):
        sources = {"a": "1<b>2<c>", "b": "3<c>4", "c": "5<d>", "d": "6"}
        self.assert_result(text("135642" + "56"), sources)
        self.assert_dependencies([("b", text("3564")), ("c", text("56"))], sources)

    def test_dependencies_as_often_as_they_occur_and_in_the_order_of_the_segments(self):
        sources = {"a": "<c><b><c>x<d><b>", "b": "1", "c": "2"}
        self.assert_dependencies(
            [("c", text("2")), ("b", text("1")), ("c", text("2")), ("d", NOTHING), ("b", text("1"))], sources
        )
        self.assert_result(text("212x?1"), sources)

    def test_only_names_after_this_one_are_included(self):
        sources = {"b": "<a><b><ba><c>", "a": "1", "ba": "2", "c": "3"}
        self.assert_result(text("<a><b>23"), sources, "b")
        self.assert_dependencies([("ba", text("2")), ("c", text("3"))], sources, "b")

    def test_what_is_included_is_not_split_again(self):
        sources = {"a": "<<b>", "b": "c>", "c": "no"}
        self.assert_result(text("<c>"), sources)
        sources = {"c": "<d>", "d": "<b>", "b": "no", "e": "no"}
        self.assert_result(text("<b>"), sources, "c")

    def test_many_inclusions_on_many_levels(self):
        sources = {name: f"<{after}>" * 20 for name, after in zip("abcdefghijk", "bcdefghijkl")}
        sources["l"] = ""
        self.assert_result(text(""), sources)
        self.assert_dependencies([("b", text(""))] * 20, sources)


class IndirectInclusions(RenderingCase):
    def test_characters_that_are_a_name_after_the_name(self):
        sources = {"a": "x<@b>y", "b": "c", "c": "mid"}
        self.assert_result(text("xmidy"), sources)
        self.assert_dependencies([("b", text("c")), ("c", text("mid"))], sources)

    def test_a_name_that_is_put_together(self):
        sources = {"a": "<@b>", "b": "<c><d>", "c": "da", "d": "y", "day": "Monday"}
        self.assert_result(text("Monday"), sources)
        self.assert_dependencies([("b", text("day")), ("day", text("Monday"))], sources)

    def test_a_name_without_a_source_to_which_it_leads(self):
        sources = {"a": "<@b>", "b": "zzz"}
        self.assert_result(text("?"), sources)
        self.assert_dependencies([("b", text("zzz")), ("zzz", NOTHING)], sources)

    def test_a_name_before_the_one_through_which_it_leads(self):
        sources = {"a": "<@d>", "d": "b", "b": "mid"}
        self.assert_result(text("mid"), sources)
        self.assert_dependencies([("d", text("b")), ("b", text("mid"))], sources)

    def test_it_may_lead_to_the_name_through_which_it_leads(self):
        sources = {"a": "<@b>", "b": "b"}
        self.assert_result(text("b"), sources)
        self.assert_dependencies([("b", text("b"))] * 2, sources)

    def test_a_name_that_is_not_after_the_name(self):
        for before in ("b", "a", "az"):
            sources = {"b": "x<@c>y", "c": before, "a": "no", "az": "no"}
            self.assert_result(text("x?y"), sources, "b")
            self.assert_dependencies([("c", text(before))], sources, "b")

    def test_characters_that_are_no_name(self):
        for characters in ("", " ", "c ", "C", "<c", "abcdefg", "c1", "[c]"):
            found = result({"b": characters}, 2, "b")
            sources = {"a": "x<@b>y", "b": characters, "c": "no"}
            self.assert_result(text("x?y"), sources)
            self.assert_dependencies([("b", found)], sources)

    def test_no_source_to_lead_through(self):
        self.assert_result(text("x?y"), {"a": "x<@b>y"})
        self.assert_dependencies([("b", NOTHING)], {"a": "x<@b>y"})

    def test_a_result_that_is_no_text_to_lead_through(self):
        sources = {"a": "x<@c>y", "c": "!!"}
        self.assert_result(("failed", "c"), sources)
        self.assert_dependencies([("c", ("failed", "c"))], sources)

    def test_a_result_that_is_no_text_to_which_it_leads(self):
        sources = {"a": "x<@b>y", "b": "c", "c": "!!"}
        self.assert_result(("failed", "c"), sources)
        self.assert_dependencies([("b", text("c")), ("c", ("failed", "c"))], sources)

    def test_several_through_one_name_beside_an_inclusion_of_it(self):
        sources = {"a": "<@b><b><@b>", "b": "c", "c": "mid"}
        self.assert_result(text("midcmid"), sources)
        found = [("b", text("c")), ("c", text("mid"))]
        self.assert_dependencies([*found, ("b", text("c")), *found], sources)

    def test_at_most_thirty_dependencies(self):
        sources = {"a": "<@b>" * 15, "b": "c", "c": ""}
        self.assertEqual(len(dependencies(sources, 1, "a")), 30)


class Links(RenderingCase):
    def test_a_link_is_the_name_in_brackets(self):
        self.assert_result(text("see [b]", "b"), {"a": "see [b]"})
        self.assert_dependencies([], {"a": "see [b]"})

    def test_links_to_any_name_rising_and_each_once(self):
        self.assert_result(text("[z][a][m][a][z]", "a", "m", "z"), {"m": "[z][a][m][a][z]"}, "m")
        self.assert_result(text("[ab][b][a]", "a", "ab", "b"), {"a": "[ab][b][a]"})

    def test_links_of_inclusions_and_its_own(self):
        sources = {"a": "[x]<b><c>", "b": "[a]<c>", "c": "[m][x]"}
        self.assert_result(text("[x][a][m][x][m][x]", "a", "m", "x"), sources)

    def test_links_of_the_name_to_which_an_indirect_inclusion_leads(self):
        sources = {"a": "<@b>", "b": "c", "c": "[x]"}
        self.assert_result(text("[x]", "x"), sources)

    def test_no_links_of_the_name_through_which_it_leads_to_none(self):
        sources = {"a": "[y]<@b>", "b": "[x]"}
        self.assert_result(text("[y]?", "y"), sources)
        self.assert_dependencies([("b", text("[x]", "x"))], sources)

    def test_links_of_a_name_that_is_included_as_well_as_led_through(self):
        self.assert_result(text("?[x]", "x"), {"a": "<@b><b>", "b": "[x]"})

    def test_no_links_of_a_name_through_which_it_leads_with_hidden_links(self):
        # These characters are a name, although its result is told to have links.
        found = [("b", ("text", "c", ("hidden",))), ("c", text("[x]", "x"))]
        self.assertEqual(join_result("a", "<@b>", 1, found), text("[x]", "x"))

    def test_characters_that_look_like_a_link_only_when_joined_are_none(self):
        self.assert_result(text("[b]"), {"a": "[<c>", "c": "b]"})


class Failures(RenderingCase):
    def test_failures_below_at_and_above_the_number_of_attempts(self):
        for attempts in (1, 2, 3, 4):
            for many in (0, attempts - 1):
                self.assert_result(text("x" + "!" * many), {"a": "x" + "!" * many}, attempts=attempts)
            for many in (attempts, attempts + 1, 60):
                self.assert_result(("failed", "a"), {"a": "!" * many}, attempts=attempts)

    def test_only_its_own_text_counts(self):
        self.assert_result(text("!!"), {"a": "!<b>", "b": "!"})

    def test_a_dependency_that_failed_is_the_cause(self):
        self.assert_result(("failed", "c"), {"a": "x<b>", "b": "y<c>", "c": "!!"})

    def test_its_own_failure_comes_first(self):
        self.assert_result(("failed", "a"), {"a": "!!<b>", "b": "!!"})

    def test_the_first_dependency_whose_result_is_no_text(self):
        sources = {"a": "<b><d><c>", "b": "x", "c": "!!", "d": "!!"}
        self.assert_result(("failed", "d"), sources)
        sources["d"] = "y"
        self.assert_result(("failed", "c"), sources)
        sources["c"] = "z"
        self.assert_result(text("xyz"), sources)

    def test_a_failure_comes_before_being_long(self):
        sources = {"a": "<b><b><b><b><c>", "b": "x" * 60, "c": "!!"}
        self.assert_result(("failed", "c"), sources)

    def test_names_that_failed_have_their_dependencies(self):
        self.assert_dependencies([("b", text("x"))], {"a": "!!<b>", "b": "x"})

    def test_a_failure_behind_a_link_does_not_count(self):
        self.assert_result(text("[b]", "b"), {"a": "[b]", "b": "!!"})


class Long(RenderingCase):
    def test_two_hundred_characters_and_one_more(self):
        sources = {"a": "<b><b><b><b><c>", "b": "x" * 40, "c": "y" * 40}
        self.assert_result(text("x" * 160 + "y" * 40), sources)
        sources["c"] = "y" * 41
        self.assert_result(("long", "a"), sources)

    def test_a_link_counts_with_its_brackets(self):
        sources = {"a": "<b><b><b><b><c>[d]", "b": "x" * 40, "c": "y" * 37}
        self.assert_result(text("x" * 160 + "y" * 37 + "[d]", "d"), sources)
        sources["c"] += "y"
        self.assert_result(("long", "a"), sources)

    def test_a_dependency_that_is_long_is_the_cause(self):
        sources = {"a": "<b>", "b": "<c><c><c><c>", "c": "x" * 51}
        self.assert_result(("long", "b"), sources)
        self.assert_result(("long", "b"), {**sources, "a": "<b><d>", "d": "!!"})
        self.assert_result(("failed", "d"), {**sources, "a": "<d><b>", "d": "!!"})

    def test_an_indirect_inclusion_has_the_length_of_what_it_leads_to(self):
        sources = {"a": "<@b>" * 4 + "<d>", "b": "c", "c": "x" * 50, "d": ""}
        self.assert_result(text("x" * 200), sources)
        sources["d"] = "y"
        self.assert_result(("long", "a"), sources)


class JoinResult(unittest.TestCase):
    def test_what_is_found_is_joined(self):
        found = [("c", text("1", "x")), ("d", text("e")), ("e", text("2", "w")), ("f", text("F")), ("b", text("3"))]
        joined = join_result("a", "<c>-<@d>-<@f>-<b>[a]", 1, found)
        self.assertEqual(joined, text("1-2-?-3[a]", "a", "w", "x"))

    def test_without_dependencies(self):
        self.assertEqual(join_result("a", "x[b]", 1, []), text("x[b]", "b"))
        self.assertEqual(join_result("a", "", 4, []), text(""))

    def test_failures(self):
        found = [("b", ("long", "d")), ("c", ("failed", "c"))]
        self.assertEqual(join_result("a", "!<b><c>", 1, found), ("failed", "a"))
        self.assertEqual(join_result("a", "!<b><c>", 2, found), ("long", "d"))
        self.assertEqual(join_result("a", "!<c><b>", 2, found[::-1]), ("failed", "c"))

    def test_with_the_dependencies_found_it_is_the_result(self):
        sources = {"a": "<c><@b><@d>[x]<e>", "b": "c", "c": "1[y]", "d": "2"}
        found = dependencies(sources, 1, "a")
        self.assertEqual(join_result("a", sources["a"], 1, found), result(sources, 1, "a"))
        self.assertEqual(result(sources, 1, "a"), text("1[y]1[y]?[x]?", "x", "y"))


class Required(unittest.TestCase):
    def assert_required(self, expected, sources, pages, attempts=2):
        self.assertEqual(required(sources, attempts, pages), expected)

    def test_of_no_page(self):
        self.assert_required([], {"a": "<b>", "b": "x"}, ())

    def test_a_page_without_a_source(self):
        self.assert_required(["b"], {"a": "<c>"}, ("b",))

    def test_pages_and_all_that_they_include(self):
        sources = {"a": "<b>", "b": "<c><d>", "c": "x", "e": "y", "f": "<g>"}
        self.assert_required(["a", "b", "c", "d"], sources, ("a",))
        self.assert_required(["b", "c", "d", "f", "g"], sources, ("f", "b"))

    def test_rising_and_each_once(self):
        sources = {"a": "<z><b><z><m>", "b": "<z><m>"}
        self.assert_required(["a", "b", "m", "z"], sources, ("z", "b", "a"))

    def test_through_indirect_inclusions(self):
        sources = {"a": "<@b>", "b": "<c>", "c": "d", "d": "<e>"}
        self.assert_required(["a", "b", "c", "d", "e"], sources, ("a",))
        self.assert_required(["a", "b", "c"], {**sources, "c": "D"}, ("a",))

    def test_names_that_failed_require_their_dependencies(self):
        self.assert_required(["a", "b", "c"], {"a": "!!<b>", "b": "!!!<c>"}, ("a",))

    def test_a_name_to_which_a_failure_does_not_lead(self):
        self.assert_required(["a", "b", "c"], {"a": "<@b>", "b": "!c<c>", "c": "d"}, ("a",), 1)

    def test_links_require_nothing(self):
        self.assert_required(["a"], {"a": "[b]", "b": "<c>"}, ("a",))


class Arguments(unittest.TestCase):
    def test_they_are_not_modified(self):
        sources = {"c": "x", "a": "<b><@d>", "b": "<c>", "d": "b"}
        before = list(sources.items())
        result(sources, 2, "a")
        dependencies(sources, 2, "a")
        pages = ["c", "a"]
        required(sources, 2, pages)
        self.assertEqual(list(sources.items()), before)
        self.assertEqual(pages, ["c", "a"])
        found = dependencies(sources, 2, "a")
        copy = list(found)
        join_result("a", sources["a"], 2, found)
        self.assertEqual(found, copy)

    def test_returned_lists_are_new(self):
        sources = {"a": "<b>", "b": "x"}
        for call in (lambda: dependencies(sources, 1, "a"), lambda: dependencies(sources, 1, "z")):
            first, before = call(), call()
            first.append("more")
            self.assertEqual(call(), before)
        pages = ["a", "b"]
        found = required(sources, 1, pages)
        found.append("more")
        self.assertEqual(pages, ["a", "b"])
        self.assertEqual(required(sources, 1, pages), ["a", "b"])


class ManySources(unittest.TestCase):
    def test_random_sources(self):
        dice = random.Random(5)
        names = ["a", "b", "ba", "c", "d", "e", "f", "zzzzzz"]
        kinds = {}
        for _ in range(1500):
            sources = some_sources(dice, names)
            attempts = dice.randint(1, 4)
            model = Model(sources, attempts)
            for name in names:
                found = result(sources, attempts, name)
                kinds[found[0]] = kinds.get(found[0], 0) + 1
                self.assertEqual(found, model.result(name), (sources, attempts, name))
                self.assertEqual(dependencies(sources, attempts, name), model.dependencies(name))
            pages = some_pages(dice, names)
            self.assertEqual(required(sources, attempts, pages), model.required(pages))
        self.assertGreater(min(kinds.values()), 20, kinds)
        self.assertEqual(len(kinds), 3)


if __name__ == "__main__":
    unittest.main()
