"""Points 2, 5, 20, 22 and 24: a publisher at its beginning, its edits, its clock and its pause; and its errors."""

import unittest

from pagesatonce.errors import OutOfRange, TooManySources
from pagesatonce.publisher import Publisher
from publishers import edited, finish, pages, put, seen

# together, unit, attempts, delay, delay_most, pause, wait
OPTIONS = (2, 10, 3, 5, 8, 20, 1000)
LEAST = (1, 1, 1, 1, 1, 1, 1)
MOST = (3, 100, 4, 100, 400, 200, 2000)

FRESH = {
    "clock": 0,
    "count": 0,
    "sources": (),
    "pages": (),
    "version": (0, 0, 0, (), ()),
    "published": 0,
    "state": "idle",
    "dirty_since": None,
    "next_due": None,
    "jobs": [],
    "renderings": {name: [] for name in "abcdefgh"},
    "required": [],
    "attempts_made": 0,
}


class PublisherCase(unittest.TestCase):
    def assert_refused(self, publisher, call, name):
        """The call raises OutOfRange with this field, or TooManySources for None, and changes nothing."""
        before = seen(publisher)
        if name is None:
            with self.assertRaises(TooManySources):
                call()
        else:
            with self.assertRaises(OutOfRange) as caught:
                call()
            self.assertEqual(caught.exception.name, name)
        self.assertEqual(seen(publisher), before)

    def assert_refuses(self, publisher, edit, name):
        self.assert_refused(publisher, lambda: publisher.edit(edit), name)


class Beginning(unittest.TestCase):
    def test_a_new_publisher(self):
        self.assertEqual(seen(Publisher(OPTIONS)), FRESH)

    def test_with_a_clock(self):
        for publisher in (Publisher(OPTIONS, 77), Publisher(OPTIONS, clock=77)):
            self.assertEqual(seen(publisher), {**FRESH, "clock": 77, "version": (0, 0, 77, (), ())})

    def test_options_at_their_bounds(self):
        self.assertEqual(seen(Publisher(LEAST)), FRESH)
        self.assertEqual(seen(Publisher(MOST)), FRESH)

    def test_options_out_of_bounds(self):
        for at in range(7):
            for value in (LEAST[at] - 1, MOST[at] + 1):
                options = OPTIONS[:at] + (value,) + OPTIONS[at + 1:]
                with self.assertRaises(OutOfRange) as caught:
                    Publisher(options)
                self.assertEqual(caught.exception.name, "options", options)

    def test_without_edits_time_changes_only_the_clock(self):
        publisher = Publisher(OPTIONS)
        self.assertEqual(publisher.advance(10000), 10000)
        self.assertEqual(seen(publisher), {**FRESH, "clock": 10000})
        self.assertIs(publisher.turn(9999999), False)
        self.assertEqual(publisher.clock(), 10000)


class Edits(unittest.TestCase):
    def test_setting_removing_and_requesting(self):
        publisher = Publisher(OPTIONS)
        self.assertIs(publisher.edit(put("b", "x")), True)
        self.assertEqual((publisher.count(), publisher.sources(), publisher.pages()), (1, (("b", "x"),), ()))
        self.assertIs(publisher.edit(put("a", "")), True)
        self.assertEqual((publisher.count(), publisher.sources()), (2, (("a", ""), ("b", "x"))))
        self.assertIs(publisher.edit(put("b", "y")), True)
        self.assertEqual((publisher.count(), publisher.sources()), (3, (("a", ""), ("b", "y"))))
        self.assertIs(publisher.edit(("remove", "a")), True)
        self.assertEqual((publisher.count(), publisher.sources()), (4, (("b", "y"),)))
        self.assertIs(publisher.edit(pages("b", "z")), True)
        self.assertEqual((publisher.count(), publisher.pages()), (5, ("b", "z")))
        self.assertIs(publisher.edit(pages()), True)
        self.assertEqual((publisher.count(), publisher.pages()), (6, ()))

    def test_sources_rise_by_their_names(self):
        publisher = edited(OPTIONS, put("c", "1"), put("ab", "2"), put("b", "3"), put("a", "4"))
        self.assertEqual(publisher.sources(), (("a", "4"), ("ab", "2"), ("b", "3"), ("c", "1")))

    def test_pages_in_another_order_are_an_edit(self):
        publisher = edited(OPTIONS, pages("a", "b"))
        self.assertIs(publisher.edit(pages("b", "a")), True)
        self.assertEqual(publisher.pages(), ("b", "a"))

    def test_what_changes_nothing_is_no_edit(self):
        for start in ([], [put("a", "x")], [put("a", "x"), pages("a")]):
            publisher = edited(OPTIONS, *start)
            publisher.advance(7)
            before = seen(publisher)
            self.assertIs(publisher.edit(("remove", "b")), False)
            if start == []:
                self.assertIs(publisher.edit(("remove", "a")), False)
                self.assertIs(publisher.edit(pages()), False)
            else:
                self.assertIs(publisher.edit(put("a", "x")), False)
            if len(start) == 2:
                self.assertIs(publisher.edit(pages("a")), False)
            self.assertEqual(seen(publisher), before)

    def test_what_changes_nothing_wakes_no_publisher_at_rest(self):
        publisher = finish(edited(OPTIONS, put("a", "x"), pages("a")))
        before = seen(publisher)
        self.assertEqual(before["state"], "idle")
        for edit in (put("a", "x"), pages("a"), ("remove", "b")):
            self.assertIs(publisher.edit(edit), False)
        self.assertEqual(seen(publisher), before)

    def test_requested_names_that_are_a_list_are_not_kept(self):
        publisher = Publisher(OPTIONS)
        names = ["a", "b"]
        publisher.edit(("pages", names))
        names.append("c")
        self.assertEqual(publisher.pages(), ("a", "b"))
        self.assertIsInstance(publisher.pages(), tuple)


class Refused(PublisherCase):
    def publishers(self):
        """Publishers in each state."""
        start = [put("a", "x!"), put("b", "<@c>"), pages("a", "b")]
        yield Publisher(OPTIONS)
        pausing = edited(OPTIONS, *start)
        self.assertEqual(pausing.state(), "pausing")
        yield pausing
        rendering = edited(OPTIONS, *start)
        rendering.advance(25)
        self.assertEqual(rendering.state(), "rendering")
        yield rendering
        yield finish(edited(OPTIONS, *start))
        frozen = edited(OPTIONS[:6] + (5,), *start)
        frozen.advance(7)
        self.assertEqual(frozen.state(), "frozen")
        yield frozen

    def test_names(self):
        for publisher in self.publishers():
            for name in ("", "abcdefg", "A", "a1", "a b", "a ", "<a>"):
                self.assert_refuses(publisher, put(name, "x"), "name")
                self.assert_refuses(publisher, ("remove", name), "name")

    def test_texts(self):
        for publisher in self.publishers():
            for words in ("x" * 61, 'say "x"', "5%", "a\nb", "\t", "\u00e4", "\x7f"):
                self.assert_refuses(publisher, put("a", words), "text")
                self.assert_refuses(publisher, put("new", words), "text")

    def test_pages(self):
        for publisher in self.publishers():
            for names in (tuple("abcdefg"), ("a", "a"), ("a", "b", "a"), ("",), ("A",), ("a", "abcdefg")):
                self.assert_refuses(publisher, pages(*names), "pages")

    def test_at_the_bounds(self):
        publisher = Publisher(OPTIONS)
        self.assertIs(publisher.edit(put("abcdef", "~" * 60)), True)
        self.assertIs(publisher.edit(pages(*"abcde", "abcdef")), True)
        self.assertIs(publisher.edit(("remove", "abcdef")), True)

    def test_the_name_before_the_text(self):
        self.assert_refuses(Publisher(OPTIONS), put("A", "x" * 61), "name")

    def test_a_thirteenth_source(self):
        publisher = edited(OPTIONS, *[put(name, "x") for name in "abcdefghijkl"])
        self.assertEqual(len(publisher.sources()), 12)
        self.assert_refuses(publisher, put("m", "x"), None)
        self.assert_refuses(publisher, put("m", ""), None)
        self.assertIs(publisher.edit(put("l", "y")), True)
        self.assertIs(publisher.edit(put("l", "y")), False)
        self.assertIs(publisher.edit(pages("m")), True)
        self.assertIs(publisher.edit(("remove", "a")), True)
        self.assertIs(publisher.edit(put("m", "x")), True)
        self.assert_refuses(publisher, put("a", "x"), None)

    def test_the_bounds_of_an_edit_before_the_number_of_sources(self):
        publisher = edited(OPTIONS, *[put(name, "x") for name in "abcdefghijkl"])
        self.assert_refuses(publisher, put("M", "x" * 61), "name")
        self.assert_refuses(publisher, put("m", "x" * 61), "text")

    def test_sources_of_a_frozen_snapshot_do_not_count(self):
        publisher = edited((1, 100, 1, 1, 1, 20, 5), *[put(name, "x") for name in "abcdefghijkl"], pages("a"))
        publisher.advance(5)
        self.assertEqual(publisher.state(), "frozen")
        self.assertIs(publisher.edit(("remove", "a")), True)
        self.assertIs(publisher.edit(put("m", "x")), True)
        self.assert_refuses(publisher, put("a", "x"), None)


class Time(PublisherCase):
    def test_advance_tells_the_clock(self):
        publisher = Publisher(OPTIONS, 5)
        self.assertEqual([publisher.advance(ticks) for ticks in (0, 1, 10000, 0)], [5, 6, 10006, 10006])
        self.assertEqual(publisher.clock(), 10006)

    def test_ticks_out_of_bounds(self):
        for publisher in (Publisher(OPTIONS), edited(OPTIONS, put("a", "x"), pages("a"))):
            for ticks in (-1, -10000, 10001, 9999999):
                self.assert_refused(publisher, lambda: publisher.advance(ticks), "ticks")

    def test_not_beyond_the_greatest_time(self):
        publisher = edited(OPTIONS, put("a", "x"), pages("a"), clock=9999990)
        self.assert_refused(publisher, lambda: publisher.advance(10), "ticks")
        self.assertEqual(publisher.advance(9), 9999999)
        self.assert_refused(publisher, lambda: publisher.advance(1), "ticks")
        self.assertEqual(publisher.advance(0), 9999999)

    def test_timers_up_to_the_time_fire(self):
        publisher = edited(OPTIONS, put("a", "x"), pages("a"))
        publisher.advance(19)
        self.assertEqual((publisher.state(), publisher.jobs()), ("pausing", []))
        publisher.advance(1)
        self.assertEqual((publisher.state(), publisher.jobs()), ("rendering", [("a", "running", 1, 30)]))
        publisher.advance(0)
        self.assertEqual(publisher.published(), 0)
        publisher.advance(9)
        self.assertEqual(publisher.published(), 0)
        publisher.advance(1)
        self.assertEqual(publisher.published(), 1)

    def test_each_timer_fires_with_the_clock_at_its_time(self):
        publisher = edited(OPTIONS, put("a", "x"), pages("a"))
        self.assertEqual(publisher.advance(500), 500)
        self.assertEqual(publisher.version(), (1, 2, 30, (("a", "x"),), ()))

    def test_turn_fires_the_first_timer(self):
        publisher = edited(OPTIONS, put("a", "x"), pages("a"))
        self.assertIs(publisher.turn(19), False)
        self.assertEqual(publisher.clock(), 0)
        self.assertIs(publisher.turn(100), True)
        self.assertEqual((publisher.clock(), publisher.next_due()), (20, 30))
        self.assertIs(publisher.turn(29), False)
        self.assertIs(publisher.turn(30), True)
        self.assertEqual((publisher.clock(), publisher.version()[2]), (30, 30))
        self.assertIs(publisher.turn(9999999), False)
        self.assertEqual(publisher.clock(), 30)

    def test_turn_fires_one_of_those_for_the_same_time(self):
        publisher = edited(OPTIONS, put("a", "x"), put("b", "y"), pages("a", "b"))
        publisher.advance(20)
        self.assertEqual(publisher.jobs(), [("a", "running", 1, 30), ("b", "running", 1, 30)])
        self.assertIs(publisher.turn(30), True)
        self.assertEqual(publisher.jobs(), [("b", "running", 1, 30)])
        self.assertIs(publisher.turn(30), True)
        self.assertEqual(publisher.jobs(), [])
        self.assertIs(publisher.turn(30), False)


class Pause(unittest.TestCase):
    def test_an_edit_makes_it_dirty_and_sets_both_timers(self):
        publisher = Publisher(OPTIONS)
        publisher.advance(3)
        publisher.edit(put("a", "x"))
        self.assertEqual((publisher.state(), publisher.dirty_since(), publisher.next_due()), ("pausing", 3, 23))
        publisher = edited(OPTIONS[:5] + (200, 70), put("a", "x"), clock=3)
        self.assertEqual((publisher.state(), publisher.dirty_since(), publisher.next_due()), ("pausing", 3, 73))

    def test_each_edit_sets_the_pause_anew(self):
        publisher = edited(OPTIONS, put("a", "x"), pages("a"))
        for time in (15, 30, 45):
            publisher.advance(15)
            publisher.edit(put("b", str(time)))
            self.assertEqual(publisher.next_due(), time + 20)
            self.assertEqual((publisher.dirty_since(), publisher.state()), (0, "pausing"))
        publisher.advance(19)
        self.assertEqual((publisher.state(), publisher.attempts_made()), ("pausing", 0))
        publisher.advance(1)
        self.assertEqual((publisher.state(), publisher.attempts_made(), publisher.dirty_since()), ("rendering", 1, 0))

    def test_an_edit_while_it_renders_sets_the_pause(self):
        publisher = edited(OPTIONS, put("a", "x"), pages("a"))
        publisher.advance(25)
        self.assertEqual(publisher.state(), "rendering")
        publisher.edit(put("b", "y"))
        self.assertEqual((publisher.state(), publisher.dirty_since()), ("pausing", 0))

    def test_without_anything_to_render_it_publishes_behind_the_pause(self):
        publisher = edited(OPTIONS, pages("b", "a"))
        publisher.advance(19)
        self.assertEqual(publisher.published(), 0)
        publisher.advance(1)
        self.assertEqual(publisher.version(), (1, 1, 20, (("b", "?"), ("a", "?")), ()))
        self.assertEqual((publisher.state(), publisher.next_due(), publisher.dirty_since()), ("idle", None, None))
        self.assertEqual(publisher.attempts_made(), 0)

    def test_the_next_edit_begins_anew(self):
        publisher = edited(OPTIONS, pages("a"))
        publisher.advance(50)
        publisher.edit(put("a", "x"))
        self.assertEqual((publisher.dirty_since(), publisher.next_due(), publisher.state()), (50, 70, "pausing"))
        finish(publisher)
        self.assertEqual(publisher.version(), (2, 2, 80, (("a", "x"),), ()))


class Lists(unittest.TestCase):
    def test_they_are_new(self):
        publisher = edited(OPTIONS, put("a", "x"), put("b", "!"), pages("a", "b"))
        publisher.advance(31)
        before = seen(publisher)
        self.assertEqual((len(before["jobs"]), len(before["renderings"]["a"])), (1, 1))
        for found in (publisher.jobs(), publisher.renderings("a"), publisher.renderings("z"), publisher.required()):
            found.append("more")
        self.assertEqual(seen(publisher), before)
        self.assertEqual(publisher.renderings("z"), [])


if __name__ == "__main__":
    unittest.main()
