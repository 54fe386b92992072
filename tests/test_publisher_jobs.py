"""Points 15, 21, 23 and 24: jobs, their attempts, what calls them off; nothing that is known is rendered again."""

import unittest

from pagesatonce.publisher import Publisher
from publishers import edited, finish, pages, put, text

# together, unit, attempts, delay, delay_most, pause, wait
OPTIONS = (2, 10, 3, 5, 8, 20, 1000)
ALONE = (1,) + OPTIONS[1:]


class JobsCase(unittest.TestCase):
    def assert_jobs(self, publisher, time, *jobs):
        """At this time, to which time passes, it has these jobs."""
        publisher.advance(time - publisher.clock())
        self.assertEqual(publisher.jobs(), list(jobs), time)


class Attempts(JobsCase):
    def test_a_plain_text(self):
        publisher = edited(OPTIONS, put("a", "x"), pages("a"))
        self.assert_jobs(publisher, 20, ("a", "running", 1, 30))
        self.assertEqual((publisher.attempts_made(), publisher.renderings("a")), (1, []))
        self.assert_jobs(publisher, 30)
        self.assertEqual(publisher.renderings("a"), [("a", "x", (), text("x"))])
        self.assertEqual(publisher.version(), (1, 2, 30, (("a", "x"),), ()))

    def test_an_attempt_takes_longer_with_each_dependency(self):
        publisher = edited(OPTIONS, put("a", "<b><b><c>"), put("b", "[z]"), pages("a"))
        self.assert_jobs(publisher, 20, ("b", "running", 1, 30))
        self.assert_jobs(publisher, 30, ("a", "running", 1, 70))
        self.assert_jobs(publisher, 70)
        b = ("b", text("[z]", "z"))
        found = (b, b, ("c", text("?")))
        self.assertEqual(publisher.renderings("a"), [("a", "<b><b><c>", found, text("[z][z]?", "z"))])
        self.assertEqual(publisher.version(), (1, 3, 70, (), (("a", ("link", "z")),)))

    def test_an_indirect_inclusion_is_found_step_by_step(self):
        publisher = edited(OPTIONS, put("a", "<@c>"), put("b", "x"), put("c", "b"), put("d", "no"), pages("a"))
        self.assertEqual(publisher.required(), ["a", "c"])
        self.assert_jobs(publisher, 20, ("c", "running", 1, 30))
        self.assert_jobs(publisher, 30, ("b", "running", 1, 40))
        self.assertEqual(publisher.required(), ["a", "b", "c"])
        self.assert_jobs(publisher, 40, ("a", "running", 1, 70))
        self.assert_jobs(publisher, 70)
        self.assertEqual(publisher.version()[3], (("a", "x"),))

    def test_attempts_that_fail_back_off(self):
        publisher = edited(OPTIONS, put("a", "!!"), pages("a"))
        self.assert_jobs(publisher, 29, ("a", "running", 1, 30))
        self.assert_jobs(publisher, 30, ("a", "backing off", 1, 35))
        self.assert_jobs(publisher, 34, ("a", "backing off", 1, 35))
        self.assert_jobs(publisher, 35, ("a", "running", 2, 45))
        self.assert_jobs(publisher, 45, ("a", "backing off", 2, 53))
        self.assert_jobs(publisher, 53, ("a", "running", 3, 63))
        self.assertEqual((publisher.attempts_made(), publisher.renderings("a")), (3, []))
        self.assert_jobs(publisher, 63)
        self.assertEqual(publisher.renderings("a"), [("a", "!!", (), text("!!"))])
        self.assertEqual(publisher.version(), (1, 2, 63, (("a", "!!"),), ()))

    def test_the_last_one_that_is_allowed(self):
        for many in (3, 4, 60):
            publisher = edited(OPTIONS, put("a", "!" * many), pages("a"))
            self.assert_jobs(publisher, 62, ("a", "running", 3, 63))
            self.assert_jobs(publisher, 63)
            self.assertEqual(publisher.renderings("a"), [("a", "!" * many, (), ("failed", "a"))])
            self.assertEqual(publisher.version(), (1, 2, 63, (), (("a", ("failed", "a")),)))
            self.assertEqual((publisher.attempts_made(), publisher.state()), (3, "idle"))

    def test_a_single_attempt(self):
        publisher = edited((2, 10, 1, 5, 8, 20, 1000), put("a", "!"), pages("a"))
        self.assert_jobs(publisher, 30)
        self.assertEqual(publisher.version()[4], (("a", ("failed", "a")),))

    def test_a_name_that_depends_on_a_failure_is_rendered(self):
        publisher = edited((2, 10, 1, 5, 8, 20, 1000), put("a", "<b>"), put("b", "!"), pages("a"))
        self.assert_jobs(publisher, 30, ("a", "running", 1, 50))
        self.assert_jobs(publisher, 50)
        self.assertEqual(publisher.renderings("a"), [("a", "<b>", (("b", ("failed", "b")),), ("failed", "b"))])

    def test_only_what_is_required_is_rendered(self):
        publisher = edited(OPTIONS, put("a", "<c>"), put("b", "x"), put("c", "y"), put("d", "<a>"), pages("a"))
        finish(publisher)
        self.assertEqual(publisher.attempts_made(), 2)
        self.assertEqual((publisher.renderings("b"), publisher.renderings("d")), ([], []))


class Together(JobsCase):
    def test_rising_names_as_many_as_may_run(self):
        sources = [put(name, "x") for name in "dcab"]
        for together in (1, 2, 3):
            publisher = edited((together,) + OPTIONS[1:], *sources, pages("d", "b", "a", "c"))
            self.assert_jobs(publisher, 20, *[(name, "running", 1, 30) for name in "abc"[:together]])
            self.assertEqual(publisher.attempts_made(), together)

    def test_the_next_one_starts_when_one_has_ended(self):
        publisher = edited(OPTIONS, *[put(name, "x") for name in "abcd"], pages("d", "c", "b", "a"))
        self.assert_jobs(publisher, 29, ("a", "running", 1, 30), ("b", "running", 1, 30))
        publisher.turn(30)
        self.assertEqual(publisher.jobs(), [("b", "running", 1, 30), ("c", "running", 1, 40)])
        publisher.turn(30)
        self.assertEqual(publisher.jobs(), [("c", "running", 1, 40), ("d", "running", 1, 40)])
        self.assert_jobs(publisher, 40)
        self.assertEqual(publisher.version(), (1, 5, 40, tuple((name, "x") for name in "dcba"), ()))

    def test_one_that_backs_off_does_not_count(self):
        publisher = edited(ALONE, put("a", "!"), put("b", "x"), put("c", "y"), pages("a", "b", "c"))
        self.assert_jobs(publisher, 20, ("a", "running", 1, 30))
        self.assert_jobs(publisher, 30, ("a", "backing off", 1, 35), ("b", "running", 1, 40))

    def test_one_whose_delay_is_over_is_queued(self):
        publisher = edited(ALONE, put("a", "!"), put("b", "x"), put("c", "y"), pages("a", "b", "c"))
        self.assert_jobs(publisher, 35, ("a", "queued", 1, None), ("b", "running", 1, 40))
        self.assertEqual(publisher.attempts_made(), 2)
        self.assert_jobs(publisher, 40, ("a", "running", 2, 50))
        self.assert_jobs(publisher, 50, ("c", "running", 1, 60))
        self.assert_jobs(publisher, 60)
        self.assertEqual((publisher.attempts_made(), publisher.version()[2]), (4, 60))

    def test_a_queued_one_waits_for_names_before_it(self):
        publisher = edited(ALONE, put("a", "x"), put("b", "y"), put("c", "!"), pages("a", "c"))
        self.assert_jobs(publisher, 30, ("c", "running", 1, 40))
        self.assert_jobs(publisher, 40, ("c", "backing off", 1, 45))
        publisher.edit(pages("a", "b", "c"))
        self.assert_jobs(publisher, 59, ("c", "queued", 1, None))
        self.assert_jobs(publisher, 60, ("b", "running", 1, 70), ("c", "queued", 1, None))
        self.assert_jobs(publisher, 70, ("c", "running", 2, 80))

    def test_timers_for_the_same_time_fire_as_they_were_set(self):
        # The timer of b for the time 40 is set before that of a for the same time.
        options = (1, 10, 2, 10, 10, 20, 1000)
        publisher = edited(options, put("b", "!"), put("c", "x"), put("d", "y"), pages("b", "c", "d"))
        self.assert_jobs(publisher, 30, ("b", "backing off", 1, 40), ("c", "running", 1, 40))
        publisher.turn(40)
        self.assertEqual(publisher.jobs(), [("b", "queued", 1, None), ("c", "running", 1, 40)])
        publisher.turn(40)
        self.assertEqual(publisher.jobs(), [("b", "running", 2, 50)])


class WhilePausing(JobsCase):
    def test_an_attempt_goes_on_and_its_result_is_kept(self):
        publisher = edited(OPTIONS, put("a", "x"), pages("a"))
        publisher.advance(25)
        publisher.edit(put("z", "q"))
        self.assert_jobs(publisher, 25, ("a", "running", 1, 30))
        self.assert_jobs(publisher, 30)
        self.assertEqual(publisher.renderings("a"), [("a", "x", (), text("x"))])
        self.assertEqual((publisher.published(), publisher.state()), (0, "pausing"))
        publisher.advance(15)
        self.assertEqual(publisher.version(), (1, 3, 45, (("a", "x"),), ()))
        self.assertEqual(publisher.attempts_made(), 1)

    def test_nothing_is_started(self):
        publisher = edited(ALONE, put("a", "x"), put("b", "y"), pages("a", "b"))
        publisher.advance(25)
        publisher.edit(put("z", "q"))
        self.assert_jobs(publisher, 44)
        self.assertEqual(publisher.attempts_made(), 1)
        self.assert_jobs(publisher, 45, ("b", "running", 1, 55))

    def test_a_delay_that_is_over_only_queues(self):
        publisher = edited(OPTIONS, put("a", "!"), pages("a"))
        publisher.advance(33)
        publisher.edit(put("z", "q"))
        self.assert_jobs(publisher, 34, ("a", "backing off", 1, 35))
        self.assert_jobs(publisher, 35, ("a", "queued", 1, None))
        self.assertEqual((publisher.state(), publisher.next_due()), ("pausing", 53))
        self.assert_jobs(publisher, 52, ("a", "queued", 1, None))
        self.assert_jobs(publisher, 53, ("a", "running", 2, 63))
        self.assert_jobs(publisher, 63)
        self.assertEqual(publisher.version(), (1, 3, 63, (("a", "!"),), ()))

    def test_an_attempt_that_fails_backs_off(self):
        publisher = edited(OPTIONS, put("a", "!"), pages("a"))
        publisher.advance(25)
        publisher.edit(put("z", "q"))
        self.assert_jobs(publisher, 30, ("a", "backing off", 1, 35))


class CalledOff(JobsCase):
    def test_when_the_text_changes(self):
        publisher = edited(OPTIONS, put("a", "x"), pages("a"))
        publisher.advance(25)
        publisher.edit(put("a", "y"))
        self.assert_jobs(publisher, 25)
        self.assertEqual(publisher.next_due(), 45)
        self.assert_jobs(publisher, 45, ("a", "running", 1, 55))
        finish(publisher)
        self.assertEqual(publisher.renderings("a"), [("a", "y", (), text("y"))])
        self.assertEqual((publisher.attempts_made(), publisher.version()[3]), (2, (("a", "y"),)))

    def test_it_begins_anew_when_the_text_is_set_back(self):
        publisher = edited(OPTIONS, put("a", "!"), pages("a"))
        publisher.advance(31)
        publisher.edit(put("a", "y"))
        publisher.edit(put("a", "!"))
        self.assert_jobs(publisher, 31)
        self.assert_jobs(publisher, 51, ("a", "running", 1, 61))

    def test_when_the_source_is_removed(self):
        publisher = edited(OPTIONS, put("a", "x"), pages("a"))
        publisher.advance(25)
        publisher.edit(("remove", "a"))
        self.assert_jobs(publisher, 25)
        finish(publisher)
        self.assertEqual(publisher.version(), (1, 3, 45, (("a", "?"),), ()))
        self.assertEqual((publisher.attempts_made(), publisher.clock()), (1, 45))

    def test_when_it_is_not_required_any_more(self):
        publisher = edited(OPTIONS, put("a", "x"), put("b", "y"), pages("a", "b"))
        publisher.advance(25)
        publisher.edit(pages("b"))
        self.assert_jobs(publisher, 25, ("b", "running", 1, 30))
        publisher.edit(pages("a", "b"))
        self.assert_jobs(publisher, 25, ("b", "running", 1, 30))

    def test_not_while_another_name_requires_it(self):
        publisher = edited(OPTIONS, put("a", "x"), put("b", "y"), pages("a", "b"))
        publisher.advance(25)
        publisher.edit(put("aa", "<b>"))
        publisher.edit(pages("aa"))
        self.assert_jobs(publisher, 25, ("b", "running", 1, 30))

    def test_when_the_text_of_a_dependency_changes(self):
        publisher = edited(OPTIONS, put("a", "<b>"), put("b", "x"), pages("a"))
        self.assert_jobs(publisher, 35, ("a", "running", 1, 50))
        publisher.edit(put("b", "y"))
        self.assert_jobs(publisher, 35)
        publisher.advance(1)
        publisher.edit(put("b", "x"))
        self.assert_jobs(publisher, 55)
        self.assert_jobs(publisher, 56, ("a", "running", 1, 76))
        self.assertEqual(publisher.attempts_made(), 3)

    def test_when_a_dependency_has_another_known_result(self):
        publisher = edited(OPTIONS, put("b", "y"), pages("b"))
        finish(publisher)
        publisher.edit(put("b", "x"))
        publisher.edit(put("a", "<b>"))
        publisher.edit(pages("a"))
        publisher.advance(30)
        start = publisher.clock()
        self.assert_jobs(publisher, start, ("a", "running", 1, start + 20))
        publisher.edit(put("b", "y"))
        self.assert_jobs(publisher, start)

    def test_not_when_a_dependency_has_the_same_result(self):
        publisher = edited(OPTIONS, put("a", "<b>"), put("b", "x"), pages("a"))
        self.assert_jobs(publisher, 35, ("a", "running", 1, 50))
        publisher.edit(put("d", "x"))
        publisher.edit(put("c", "q"))
        self.assert_jobs(publisher, 35, ("a", "running", 1, 50))

    def test_when_an_indirect_inclusion_leads_to_another_name(self):
        publisher = finish(edited(OPTIONS, put("b", "d"), put("d", "x"), put("c", "x"), pages("b", "c", "d")))
        publisher.edit(put("b", "c"))
        publisher.edit(put("a", "<@b>"))
        publisher.edit(pages("a"))
        publisher.advance(30)
        start = publisher.clock()
        self.assert_jobs(publisher, start, ("a", "running", 1, start + 30))
        publisher.edit(put("b", "d"))
        self.assert_jobs(publisher, start)

    def test_when_a_removed_dependency_is_known_as_nothing(self):
        publisher = edited(OPTIONS, put("a", "<b>"), put("b", "x"), pages("a"))
        self.assert_jobs(publisher, 35, ("a", "running", 1, 50))
        publisher.edit(("remove", "b"))
        self.assert_jobs(publisher, 35)
        finish(publisher)
        self.assertEqual(publisher.version()[3], (("a", "?"),))

    def test_one_that_backs_off_with_its_timer(self):
        publisher = edited(OPTIONS, put("a", "!"), pages("a"))
        self.assert_jobs(publisher, 31, ("a", "backing off", 1, 35))
        publisher.edit(put("a", "x"))
        self.assert_jobs(publisher, 31)
        self.assertEqual(publisher.next_due(), 51)

    def test_one_that_is_queued(self):
        publisher = edited(ALONE, put("a", "!"), put("b", "<z><z>"), pages("a", "b"))
        self.assert_jobs(publisher, 36, ("a", "queued", 1, None), ("b", "running", 1, 60))
        publisher.edit(pages("b"))
        self.assert_jobs(publisher, 36, ("b", "running", 1, 60))
        publisher.edit(pages("b", "a"))
        self.assert_jobs(publisher, 36, ("b", "running", 1, 60))

    def test_its_place_is_free(self):
        publisher = edited(ALONE, put("a", "x" * 9), put("b", "<c>"), pages("a", "b"))
        self.assert_jobs(publisher, 25, ("a", "running", 1, 30))
        publisher.edit(pages("b"))
        self.assert_jobs(publisher, 45, ("b", "running", 1, 65))


class KnownOnes(JobsCase):
    def edits_again(self, publisher, *edits):
        """How many attempts are made after these edits."""
        before = publisher.attempts_made()
        for edit in edits:
            self.assertIs(publisher.edit(edit), True, edit)
        finish(publisher)
        self.assertEqual(publisher.version()[1], publisher.count())
        return publisher.attempts_made() - before

    def test_a_text_that_is_set_and_set_back(self):
        publisher = finish(edited(OPTIONS, put("a", "<b>"), put("b", "x!"), pages("a", "b")))
        self.assertEqual(self.edits_again(publisher, put("b", "y"), put("b", "x!")), 0)
        self.assertEqual(self.edits_again(publisher, put("b", "y")), 2)
        self.assertEqual(self.edits_again(publisher, put("b", "x!")), 0)
        self.assertEqual(publisher.version()[3], (("a", "x!"), ("b", "x!")))
        self.assertEqual(self.edits_again(publisher, put("b", "y")), 0)

    def test_only_the_last_four(self):
        publisher = finish(edited(OPTIONS, put("a", "1"), pages("a")))
        self.assertEqual([self.edits_again(publisher, put("a", words)) for words in "2341"], [1, 1, 1, 0])
        self.assertEqual([rendering[1] for rendering in publisher.renderings("a")], list("4321"))
        self.assertEqual(self.edits_again(publisher, put("a", "5")), 1)
        self.assertEqual([rendering[1] for rendering in publisher.renderings("a")], list("5432"))
        self.assertEqual([self.edits_again(publisher, put("a", words)) for words in "421"], [0, 0, 1])

    def test_pages_that_are_requested_again(self):
        publisher = finish(edited(OPTIONS, put("a", "<b>"), put("b", "x"), pages("a")))
        self.assertEqual(self.edits_again(publisher, pages()), 0)
        self.assertEqual(self.edits_again(publisher, pages("b")), 0)
        self.assertEqual(self.edits_again(publisher, pages("b", "a")), 0)

    def test_another_text_with_the_same_result(self):
        publisher = finish(edited(OPTIONS, put("a", "<b>"), put("b", "x"), put("c", "x"), pages("a")))
        self.assertEqual(self.edits_again(publisher, put("b", "<c>")), 2)
        self.assertEqual(len(publisher.renderings("a")), 1)
        self.assertEqual(len(publisher.renderings("b")), 2)

    def test_failures_are_known(self):
        publisher = finish(edited(OPTIONS, put("a", "!!!"), pages("a")))
        self.assertEqual(self.edits_again(publisher, put("b", "x")), 0)

    def test_renderings_go_with_the_source(self):
        publisher = finish(edited(OPTIONS, put("a", "<b>"), put("b", "x"), pages("a")))
        self.assertIs(publisher.edit(("remove", "b")), True)
        self.assertEqual(publisher.renderings("b"), [])
        self.assertEqual(len(publisher.renderings("a")), 1)
        self.assertEqual(self.edits_again(publisher, put("b", "x")), 1)
        self.assertEqual(publisher.version()[3], (("a", "x"),))

    def test_a_source_that_comes_back_while_a_frozen_snapshot_has_it(self):
        publisher = finish(edited((1, 10, 1, 1, 1, 20, 30), put("a", "x"), put("b", "y"), pages("a")))
        publisher.edit(put("b", "<a><c><d><e>"))
        publisher.edit(pages("a", "b"))
        publisher.advance(30)
        self.assertEqual((publisher.state(), [job[0] for job in publisher.jobs()]), ("frozen", ["b"]))
        self.assertIs(publisher.edit(("remove", "a")), True)
        self.assertEqual(len(publisher.renderings("a")), 1)
        self.assertEqual(self.edits_again(publisher, put("a", "x")), 0)
        self.assertEqual(len(publisher.renderings("a")), 1)

    def test_an_attempt_whose_text_is_no_longer_there_is_not_kept(self):
        publisher = edited(OPTIONS, put("a", "x"), pages("a"))
        publisher.advance(25)
        publisher.edit(put("a", "y"))
        publisher.advance(10)
        self.assertEqual(publisher.renderings("a"), [])

    def test_a_new_publisher_knows_nothing(self):
        self.assertEqual(self.edits_again(Publisher(OPTIONS), put("a", "x"), pages("a")), 1)


if __name__ == "__main__":
    unittest.main()
