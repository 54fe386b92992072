"""Points 20 and 23 to 25: freezing, release, versions; and what a publisher resumes."""

import unittest

from pagesatonce.publisher import Publisher
from publishers import edited, finish, pages, put, seen, text

# together, unit, attempts, delay, delay_most, pause, wait
OPTIONS = (1, 10, 2, 5, 8, 20, 50)
# Here the wait is over before the pause, and a rendering takes as long as the wait or longer.
HASTY = (1, 10, 2, 5, 8, 200, 20)


class FreezingCase(unittest.TestCase):
    def assert_tells(self, publisher, **told):
        everything = seen(publisher)
        self.assertEqual({name: everything[name] for name in told}, told)

    def busy(self):
        """A publisher that is edited until it freezes, at 50, with b still to be rendered behind a."""
        publisher = edited(OPTIONS, put("a", "x"), put("b", "y"))
        for edit in (pages("a"), put("c", "q"), pages("a", "b")):
            publisher.advance(15)
            publisher.edit(edit)
        publisher.advance(5)
        return publisher

    def hasty(self):
        """A publisher that is frozen at 20 and publishes at 40."""
        publisher = edited(HASTY, put("a", "x"), put("b", "y"), pages("a", "b"))
        publisher.advance(20)
        return publisher


class Freezing(FreezingCase):
    def test_when_the_wait_timer_fires(self):
        publisher = edited(OPTIONS, put("a", "x"), pages("a"))
        for time in (15, 30, 45):
            publisher.advance(15)
            publisher.edit(put("b", str(time)))
        publisher.advance(4)
        self.assert_tells(publisher, clock=49, state="pausing", dirty_since=0, next_due=50, jobs=[])
        publisher.advance(1)
        self.assert_tells(publisher, state="frozen", dirty_since=None, next_due=60, attempts_made=1)
        self.assertEqual(publisher.jobs(), [("a", "running", 1, 60)])

    def test_the_version_has_its_count_and_its_time(self):
        publisher = self.busy()
        self.assert_tells(publisher, clock=50, state="frozen", count=5)
        finish(publisher)
        self.assert_tells(publisher, clock=70, version=(1, 5, 50, (("a", "x"), ("b", "y")), ()))

    def test_released_and_not_dirty_it_is_idle(self):
        publisher = finish(self.busy())
        self.assert_tells(publisher, state="idle", dirty_since=None, next_due=None, jobs=[], published=1)

    def test_with_all_that_is_required_known_it_publishes_at_once(self):
        publisher = edited(HASTY, pages("b", "a"))
        publisher.advance(19)
        self.assert_tells(publisher, state="pausing", published=0, next_due=20)
        publisher.advance(1)
        version = (1, 1, 20, (("b", "?"), ("a", "?")), ())
        self.assert_tells(publisher, version=version, published=1, state="idle", next_due=None, dirty_since=None)

    def test_what_is_running_goes_on(self):
        publisher = edited((1, 10, 2, 5, 8, 20, 25), put("a", "!"), put("b", "y"), pages("a", "b"))
        publisher.advance(24)
        self.assert_tells(publisher, state="rendering", jobs=[("a", "running", 1, 30)], dirty_since=0)
        publisher.advance(1)
        self.assert_tells(publisher, state="frozen", jobs=[("a", "running", 1, 30)], attempts_made=1, dirty_since=None)
        finish(publisher)
        self.assertEqual(publisher.version(), (1, 3, 25, (("a", "!"), ("b", "y")), ()))

    def test_a_queued_one_starts_since_the_pause_is_off(self):
        publisher = edited((1, 10, 2, 5, 8, 20, 45), put("a", "!"), pages("a"))
        publisher.advance(31)
        publisher.edit(put("b", "y"))
        publisher.advance(13)
        self.assert_tells(publisher, state="pausing", jobs=[("a", "queued", 1, None)], next_due=45)
        publisher.advance(1)
        self.assert_tells(publisher, state="frozen", jobs=[("a", "running", 2, 55)], next_due=55)

    def test_the_wait_comes_before_the_pause_at_the_same_time(self):
        publisher = edited((1, 10, 2, 5, 8, 20, 20), put("a", "x"), pages("a"))
        publisher.turn(20)
        self.assert_tells(publisher, clock=20, state="frozen", next_due=30, jobs=[("a", "running", 1, 30)])
        self.assertEqual(finish(publisher).version()[2], 20)

    def test_published_before_the_wait_is_over_it_does_not_freeze(self):
        publisher = edited((1, 10, 2, 5, 8, 20, 31), put("a", "x"), pages("a"))
        publisher.advance(30)
        self.assert_tells(publisher, state="idle", version=(1, 2, 30, (("a", "x"),), ()), next_due=None)
        self.assertIs(publisher.turn(9999999), False)


class EditsWhileFrozen(FreezingCase):
    def test_the_snapshot_stays(self):
        publisher = self.busy()
        jobs = publisher.jobs()
        publisher.advance(5)
        publisher.edit(put("a", "<d>z"))
        self.assert_tells(
            publisher, state="frozen", dirty_since=55, jobs=jobs, next_due=60, required=["a", "b"], count=6
        )
        publisher.advance(2)
        publisher.edit(pages("d"))
        publisher.edit(("remove", "b"))
        self.assert_tells(publisher, state="frozen", dirty_since=55, jobs=jobs, required=["a", "b"], count=8)
        self.assertEqual(publisher.sources(), (("a", "<d>z"), ("c", "q")))
        self.assertEqual(publisher.pages(), ("d",))
        publisher.advance(12)
        self.assertEqual(publisher.jobs(), [("b", "running", 1, 70)])
        publisher.advance(1)
        self.assertEqual(publisher.version(), (1, 5, 50, (("a", "x"), ("b", "y")), ()))
        self.assert_tells(publisher, required=["d"], dirty_since=55)

    def test_an_edit_that_changes_nothing_makes_it_not_dirty(self):
        publisher = self.busy()
        self.assertIs(publisher.edit(put("a", "x")), False)
        self.assert_tells(publisher, dirty_since=None, count=5)

    def test_renderings_of_a_name_that_only_the_snapshot_has_are_kept(self):
        publisher = self.busy()
        publisher.advance(10)
        publisher.edit(("remove", "a"))
        self.assertEqual(publisher.renderings("a"), [("a", "x", (), text("x"))])
        publisher.advance(9)
        self.assertEqual(len(publisher.renderings("a")), 1)
        publisher.advance(1)
        self.assert_tells(publisher, published=1, state="pausing")
        self.assertEqual(publisher.renderings("a"), [])


class Release(FreezingCase):
    def test_with_the_rests_of_both_times(self):
        publisher = self.busy()
        publisher.advance(3)
        publisher.edit(put("a", "z"))
        publisher.advance(2)
        publisher.edit(put("c", "r"))
        publisher.advance(15)
        self.assert_tells(publisher, clock=70, published=1, state="pausing", dirty_since=53, next_due=75, jobs=[])
        publisher.advance(5)
        self.assert_tells(publisher, state="rendering", jobs=[("a", "running", 1, 85)], next_due=85)
        publisher.advance(10)
        version = (2, 7, 85, (("a", "z"), ("b", "y")), ())
        self.assert_tells(publisher, version=version, state="idle", next_due=None, dirty_since=None)

    def test_the_rest_of_the_wait(self):
        publisher = self.busy()
        publisher.advance(3)
        publisher.edit(put("a", "z"))
        for _ in range(4):
            publisher.advance(10)
            publisher.edit(put("c", str(publisher.clock())))
        self.assert_tells(publisher, clock=93, state="pausing", dirty_since=53, next_due=103)
        publisher.advance(10)
        publisher.edit(put("c", "late"))
        self.assert_tells(publisher, clock=103, state="frozen", dirty_since=103)
        finish(publisher)
        self.assert_tells(publisher, version=(2, 11, 123, (("a", "z"), ("b", "y")), ()), published=3)

    def test_without_a_pause_if_no_edit_was_made_for_so_long(self):
        publisher = self.busy()
        publisher.edit(put("a", "z"))
        publisher.advance(20)
        jobs = [("a", "running", 1, 80)]
        self.assert_tells(publisher, clock=70, published=1, state="rendering", dirty_since=50, jobs=jobs, next_due=80)
        publisher.advance(10)
        self.assert_tells(publisher, version=(2, 6, 80, (("a", "z"), ("b", "y")), ()), state="idle", next_due=None)

    def test_with_one_tick_of_the_pause_left(self):
        publisher = self.busy()
        publisher.advance(1)
        publisher.edit(put("a", "z"))
        publisher.advance(19)
        self.assert_tells(publisher, clock=70, published=1, state="pausing", jobs=[], next_due=71)

    def test_the_wait_comes_before_the_pause_at_the_same_time(self):
        publisher = edited((1, 10, 2, 5, 8, 25, 25), put("a", "x"), put("b", "y"), pages("a", "b"))
        publisher.advance(26)
        publisher.edit(put("a", "z"))
        publisher.advance(19)
        self.assert_tells(publisher, clock=45, published=1, state="pausing", next_due=51)
        publisher.turn(51)
        self.assert_tells(publisher, clock=51, state="frozen", next_due=61, jobs=[("a", "running", 1, 61)])

    def test_the_wait_that_is_left_freezes_it(self):
        publisher = self.busy()
        publisher.edit(put("a", "<d><d><d>"))
        publisher.advance(20)
        self.assert_tells(publisher, state="rendering", jobs=[("a", "running", 1, 110)], next_due=100)
        publisher.advance(30)
        self.assert_tells(publisher, clock=100, state="frozen", jobs=[("a", "running", 1, 110)], dirty_since=None)
        publisher.advance(10)
        self.assertEqual(publisher.version(), (2, 6, 100, (("a", "???"), ("b", "y")), ()))

    def test_it_publishes_again_if_all_is_known(self):
        publisher = self.busy()
        publisher.edit(put("a", "z"))
        publisher.edit(put("a", "x"))
        publisher.edit(pages("b", "a"))
        publisher.advance(19)
        self.assertEqual(publisher.published(), 0)
        self.assertIs(publisher.turn(70), True)
        version = (2, 8, 70, (("b", "y"), ("a", "x")), ())
        self.assert_tells(publisher, published=2, version=version, state="idle", next_due=None, dirty_since=None)


class FrozenAgain(FreezingCase):
    def test_when_the_wait_is_over(self):
        publisher = self.hasty()
        self.assert_tells(publisher, state="frozen", jobs=[("a", "running", 1, 30)])
        publisher.edit(put("a", "z"))
        self.assert_tells(publisher, state="frozen", dirty_since=20)
        publisher.advance(20)
        version = (1, 3, 20, (("a", "x"), ("b", "y")), ())
        jobs = [("a", "running", 1, 50)]
        self.assert_tells(publisher, version=version, state="frozen", dirty_since=None, jobs=jobs, next_due=50)
        publisher.edit(put("a", "no"))
        publisher.advance(10)
        self.assert_tells(publisher, version=(2, 4, 40, (("a", "z"), ("b", "y")), ()), published=2)

    def test_not_one_tick_before(self):
        publisher = self.hasty()
        publisher.advance(1)
        publisher.edit(put("a", "z"))
        publisher.advance(19)
        self.assert_tells(publisher, clock=40, published=1, state="pausing", dirty_since=21, next_due=41, jobs=[])
        publisher.advance(1)
        self.assert_tells(publisher, clock=41, state="frozen", dirty_since=None, jobs=[("a", "running", 1, 51)])

    def test_with_all_known_it_publishes_twice(self):
        publisher = self.hasty()
        publisher.edit(pages("b"))
        publisher.advance(19)
        self.assertEqual(publisher.published(), 0)
        self.assertIs(publisher.turn(40), True)
        self.assert_tells(publisher, published=2, version=(2, 4, 40, (("b", "y"),), ()))
        self.assert_tells(publisher, state="idle", next_due=None, dirty_since=None)

    def test_nothing_behind_it(self):
        publisher = self.hasty()
        publisher.edit(put("z", "q"))
        finish(publisher)
        self.assert_tells(publisher, clock=40, version=(1, 4, 40, (("a", "x"), ("b", "y")), ()), published=2)

    def test_edits_that_never_stop(self):
        publisher = self.hasty()
        counts = []
        for number in range(40):
            publisher.edit(put("a", str(number)))
            publisher.advance(5)
            counts.append(publisher.version()[1])
        self.assertEqual(counts, sorted(counts))
        self.assertGreater(len(set(counts)), 4)
        self.assertGreater(counts[-1], 30)


class Versions(unittest.TestCase):
    def versions(self, publisher, *edits):
        """The versions behind each of these edits."""
        found = []
        for edit in edits:
            self.assertIs(publisher.edit(edit), True, edit)
            finish(publisher)
            found.append(publisher.version())
        return found

    def test_the_number_stays_while_pages_and_behind_are_the_same(self):
        found = self.versions(Publisher(OPTIONS), put("a", "x"), pages("a"), put("b", "y"), put("b", "z"))
        self.assertEqual(
            found,
            [
                (0, 1, 20, (), ()),
                (1, 2, 50, (("a", "x"),), ()),
                (1, 3, 70, (("a", "x"),), ()),
                (1, 4, 90, (("a", "x"),), ()),
            ],
        )

    def test_published_counts_each_time(self):
        publisher = Publisher(OPTIONS)
        self.versions(publisher, put("a", "x"), pages("a"), put("b", "y"))
        self.assertEqual(publisher.published(), 3)

    def test_the_number_grows_with_pages(self):
        found = self.versions(Publisher(OPTIONS), pages("a", "b"), pages("b", "a"), put("a", "x"), pages("a"), pages())
        self.assertEqual([version[0] for version in found], [1, 2, 3, 4, 5])
        self.assertEqual(found[-1][3:], ((), ()))

    def test_the_number_grows_with_those_behind(self):
        publisher = Publisher((1, 1, 1, 1, 1, 1, 50))
        found = self.versions(publisher, put("a", "[c]"), pages("a"), put("a", "[b]"), put("a", "!"), put("b", "x"))
        self.assertEqual([version[0] for version in found], [0, 1, 2, 3, 3])
        reasons = [version[4] for version in found[1:]]
        self.assertEqual(
            reasons,
            [
                (("a", ("link", "c")),),
                (("a", ("link", "b")),),
                (("a", ("failed", "a")),),
                (("a", ("failed", "a")),),
            ],
        )

    def test_pages_and_those_behind_in_the_order_of_the_pages(self):
        edits = [put("a", "<b>[c]"), put("b", "!!"), put("c", "x"), put("d", "[e]"), put("e", "[d]")]
        publisher = finish(edited(OPTIONS, *edits, pages("e", "b", "d", "a", "c")))
        self.assertEqual(publisher.version()[3], (("e", "[d]"), ("d", "[e]"), ("c", "x")))
        self.assertEqual(publisher.version()[4], (("b", ("failed", "b")), ("a", ("failed", "b"))))

    def test_a_version_is_not_shown_in_parts(self):
        publisher = finish(edited(OPTIONS, put("a", "x"), put("b", "x"), pages("a", "b")))
        before = publisher.version()
        publisher.edit(put("a", "y"))
        publisher.edit(put("b", "y"))
        seen_ones = [before]
        while publisher.turn(9999999):
            seen_ones.append(publisher.version())
        self.assertEqual(seen_ones[:-1], [before] * (len(seen_ones) - 1))
        self.assertEqual(seen_ones[-1][3], (("a", "y"), ("b", "y")))


class Resume(FreezingCase):
    EDITS = [put("a", "<b>"), put("b", "x"), pages("a"), put("b", "y")]

    def resumed(self, count, options=OPTIONS, clock=100):
        publisher = Publisher(options, clock)
        version = (7, count, 90, (("a", "y" if count == 4 else "x"),), ())
        self.assertIsNone(publisher.resume(self.EDITS, version))
        return publisher

    def test_without_further_edits(self):
        publisher = self.resumed(4)
        self.assertEqual(
            seen(publisher, ("a", "b")),
            {
                "clock": 100,
                "count": 4,
                "sources": (("a", "<b>"), ("b", "y")),
                "pages": ("a",),
                "version": (7, 4, 90, (("a", "y"),), ()),
                "published": 0,
                "state": "idle",
                "dirty_since": None,
                "next_due": None,
                "jobs": [],
                "renderings": {"a": [], "b": []},
                "required": ["a", "b"],
                "attempts_made": 0,
            },
        )
        publisher.advance(500)
        self.assert_tells(publisher, state="idle", published=0, attempts_made=0)

    def test_the_next_edit_renders_all_and_keeps_the_number(self):
        publisher = self.resumed(4)
        publisher.advance(10)
        publisher.edit(put("c", "q"))
        self.assert_tells(publisher, count=5, dirty_since=110, next_due=130, state="pausing")
        finish(publisher)
        self.assert_tells(publisher, attempts_made=2, published=1, version=(7, 5, 160, (("a", "y"),), ()))

    def test_with_further_edits(self):
        publisher = self.resumed(3)
        self.assert_tells(
            publisher,
            clock=100,
            count=4,
            version=(7, 3, 90, (("a", "x"),), ()),
            published=0,
            state="pausing",
            dirty_since=100,
            next_due=120,
            jobs=[],
            attempts_made=0,
        )
        publisher.advance(20)
        self.assert_tells(publisher, state="rendering", jobs=[("b", "running", 1, 130)], next_due=130)
        finish(publisher)
        self.assert_tells(publisher, version=(8, 4, 150, (("a", "y"),), ()), published=1, attempts_made=2)
        self.assert_tells(publisher, state="idle", dirty_since=None)

    def test_the_wait_timer_is_set_too(self):
        publisher = self.resumed(3, HASTY)
        self.assert_tells(publisher, state="pausing", next_due=120)
        publisher.advance(20)
        self.assert_tells(publisher, state="frozen", dirty_since=None)
        self.assertEqual(finish(publisher).version(), (8, 4, 120, (("a", "y"),), ()))

    def test_the_wait_comes_before_the_pause_at_the_same_time(self):
        publisher = self.resumed(3, (1, 10, 2, 5, 8, 20, 20))
        publisher.turn(120)
        self.assert_tells(publisher, clock=120, state="frozen", next_due=130)

    def test_edits_while_what_is_resumed_is_rendered(self):
        publisher = self.resumed(0, (1, 5, 2, 5, 8, 30, 10))
        publisher.advance(10)
        publisher.edit(put("b", "z"))
        publisher.advance(5)
        self.assertEqual(publisher.jobs(), [("a", "running", 1, 125)])
        publisher.advance(10)
        self.assert_tells(publisher, clock=125, published=1, version=(8, 4, 110, (("a", "y"),), ()), state="frozen")

    def test_of_no_edits(self):
        publisher = Publisher(OPTIONS, 5)
        self.assertIsNone(publisher.resume([], (0, 0, 0, (), ())))
        self.assert_tells(publisher, version=(0, 0, 0, (), ()), state="idle", count=0, clock=5, next_due=None)

    def test_of_all_edits_behind_no_version(self):
        publisher = Publisher(OPTIONS, 5)
        publisher.resume([put("a", "x")], (0, 0, 0, (), ()))
        self.assert_tells(publisher, state="pausing", dirty_since=5, next_due=25, count=1)

    def test_the_list_of_edits_is_neither_modified_nor_kept(self):
        edits = list(self.EDITS)
        publisher = Publisher(OPTIONS)
        publisher.resume(edits, (7, 4, 0, (("a", "y"),), ()))
        self.assertEqual(edits, self.EDITS)
        before = seen(publisher)
        edits.clear()
        self.assertEqual(seen(publisher), before)

    def test_a_removed_source(self):
        publisher = Publisher(OPTIONS)
        publisher.resume([put("a", "x"), put("b", "y"), ("remove", "a"), pages("b")], (1, 4, 0, (("b", "y"),), ()))
        self.assert_tells(publisher, sources=(("b", "y"),), pages=("b",), count=4, state="idle")


if __name__ == "__main__":
    unittest.main()
