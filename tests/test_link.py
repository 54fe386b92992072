"""Point 38: a house and its mirrors, and the row of letters between them."""

import unittest

from houses import OPTIONS, formatted
from pagesatonce.errors import LogFull, NoLetter, NotOpen, OutOfRange, PowerCut, TooManySources, UnlikeLetters
from pagesatonce.house import House
from pagesatonce.link import Link
from publishers import pages, put

EMPTY = (0, 0, 0, (), ())
VERSION = (1, 3, 30, (("a", "see [b]"), ("b", "B")), ())
PAGE_A, PAGE_B, SEAL = ("page", 1, "a", "see [b]"), ("page", 1, "b", "B"), ("seal", 1, 3, 30, ("a", "b"), ())


def linked(mirrors=2, blocks=60):
    """A link whose house has published a version."""
    link = Link(OPTIONS, mirrors, blocks)
    for edit in (put("a", "see [b]"), put("b", "B"), pages("a", "b")):
        link.edit(edit)
    link.advance(30)
    assert link.version() == VERSION
    return link


def seen(link, mirrors=2):
    """All that a link tells of its row and its mirrors."""
    names = ("a", "b", "c")
    return (
        link.letters(),
        [link.shown(mirror) for mirror in range(mirrors)],
        [[link.page(mirror, name) for name in names] for mirror in range(mirrors)],
    )


class Making(unittest.TestCase):
    def assert_refused(self, name, *arguments):
        with self.assertRaises(OutOfRange) as caught:
            Link(*arguments)
        self.assertEqual(caught.exception.name, name)

    def test_a_new_link(self):
        link = Link(OPTIONS, 2, 8)
        self.assertIs(link.is_open(), True)
        self.assertEqual(seen(link), ([], [EMPTY] * 2, [[None] * 3] * 2))
        self.assertEqual((link.version(), link.clock(), link.count(), link.history()), (EMPTY, 0, 0, []))
        self.assertEqual((link.state(), link.next_due()), ("idle", None))

    def test_so_many_mirrors(self):
        for mirrors in (1, 2, 3):
            link = Link(OPTIONS, mirrors, 40)
            for mirror in range(mirrors):
                self.assertEqual(link.shown(mirror), EMPTY)
                self.assertIsNone(link.page(mirror, "a"))
            for mirror in (-mirrors, -1, mirrors, mirrors + 1):
                for call in (lambda: link.shown(mirror), lambda: link.page(mirror, "a")):
                    with self.assertRaises(OutOfRange) as caught:
                        call()
                    self.assertEqual(caught.exception.name, "mirror")

    def test_too_few_or_too_many_mirrors(self):
        for mirrors in (-1, 0, 4, 100):
            self.assert_refused("mirrors", OPTIONS, mirrors, 40)

    def test_blocks(self):
        for blocks in (8, 400):
            Link(OPTIONS, 1, blocks)
        for blocks in (-1, 0, 7, 401):
            self.assert_refused("blocks", OPTIONS, 1, blocks)

    def test_options(self):
        wrong = (2, 10, 3, 5, 15, 20, 2001)
        self.assert_refused("options", wrong, 1, 40)
        self.assert_refused("mirrors", wrong, 0, 7)
        self.assert_refused("blocks", wrong, 1, 7)

    def test_the_options_are_those_of_the_house(self):
        link = Link((1, 1, 1, 1, 1, 7, 1), 1, 40)
        link.edit(pages("a"))
        self.assertEqual(link.next_due(), 1)
        link = Link((1, 1, 1, 1, 1, 7, 100), 1, 40)
        link.edit(pages("a"))
        self.assertEqual(link.next_due(), 7)


class TheHouse(unittest.TestCase):
    def test_what_it_tells_is_that_of_a_house(self):
        house, link = House(formatted(60)), Link(OPTIONS, 1, 60)
        for edit, ticks in ((put("a", "x <c>!"), 3), (pages("a"), 30), (put("c", "C"), 500), (pages("a"), 0)):
            self.assertIs(link.edit(edit), house.edit(edit))
            self.assertEqual(link.advance(ticks), house.advance(ticks))
            for name in ("version", "clock", "count", "history", "next_due", "state"):
                self.assertEqual(getattr(link, name)(), getattr(house, name)(), name)
        self.assertEqual(link.sync(), 3)

    def test_what_it_refuses_is_that_of_a_house(self):
        link = Link(OPTIONS, 1, 18)
        for edit in (put("A", "x"), put("a", '"'), ("remove", "A"), pages("a", "a")):
            self.assertRaises(OutOfRange, link.edit, edit)
        for ticks in (-1, 10001):
            self.assertRaises(OutOfRange, link.advance, ticks)
        for name in "abcdefghijkl":
            link.edit(put(name, "x"))
        self.assertEqual(link.count(), 12)
        self.assertRaises(TooManySources, link.edit, put("m", "x"))
        self.assertRaises(LogFull, link.edit, put("a", "y"))
        self.assertIs(link.edit(put("a", "x")), False)
        self.assertEqual((link.count(), len(link.history())), (12, 12))

    def test_lists_are_new(self):
        link = linked()
        link.post()
        before = (seen(link), link.history())
        link.history().clear()
        link.letters().clear()
        link.letters().append("x")
        self.assertEqual((seen(link), link.history()), before)


class Row(unittest.TestCase):
    def test_posting(self):
        for mirrors in (1, 2, 3):
            link = linked(mirrors)
            self.assertEqual(link.post(), 3 * mirrors)
            row = [(mirror, letter) for mirror in range(mirrors) for letter in (PAGE_A, PAGE_B, SEAL)]
            self.assertEqual(link.letters(), row)
            # Those that are posted again are put behind them.
            link.drop(0)
            self.assertEqual(link.post(), 3 * mirrors)
            self.assertEqual(link.letters(), row[1:] + row)

    def test_posting_the_version_of_the_beginning(self):
        link = Link(OPTIONS, 2, 40)
        self.assertEqual(link.post(), 2)
        self.assertEqual(link.letters(), [(0, ("seal", 0, 0, 0, (), ())), (1, ("seal", 0, 0, 0, (), ()))])
        self.assertIs(link.deliver(0), False)
        self.assertEqual(link.shown(0), EMPTY)

    def test_posting_tells_of_the_version_alone(self):
        link = linked(1)
        link.edit(put("a", "new"))
        link.post()
        self.assertEqual(link.letters(), [(0, PAGE_A), (0, PAGE_B), (0, SEAL)])

    def test_there_is_no_letter(self):
        link = linked(1)
        for at in (-1, 0, 1):
            for call in (link.drop, link.duplicate, link.deliver):
                self.assertRaises(NoLetter, call, at)
        link.post()
        before = seen(link, 1)
        for at in (-3, -1, 3, 4):
            for call in (link.drop, link.duplicate, link.deliver):
                self.assertRaises(NoLetter, call, at)
        self.assertEqual(seen(link, 1), before)

    def test_dropping(self):
        link = linked(1)
        link.post()
        self.assertIsNone(link.drop(2))
        self.assertEqual(link.letters(), [(0, PAGE_A), (0, PAGE_B)])
        self.assertIsNone(link.drop(0))
        self.assertEqual(link.letters(), [(0, PAGE_B)])
        link.drop(0)
        self.assertEqual((link.letters(), link.shown(0)), ([], EMPTY))

    def test_duplicating(self):
        link = linked(1)
        link.post()
        self.assertIsNone(link.duplicate(0))
        self.assertIsNone(link.duplicate(3))
        self.assertIsNone(link.duplicate(2))
        self.assertEqual(link.letters(), [(0, letter) for letter in (PAGE_A, PAGE_B, SEAL, PAGE_A, PAGE_A, SEAL)])

    def test_delivering_the_eldest(self):
        link = linked(2)
        link.post()
        self.assertEqual([link.deliver(0) for _ in range(6)], [False, False, True, False, False, True])
        self.assertEqual(seen(link), ([], [VERSION] * 2, [["see [b]", "B", None]] * 2))

    def test_delivering_the_last(self):
        link = linked(2)
        link.post()
        self.assertEqual([link.deliver(at) for at in (5, 4)], [False, False])
        self.assertEqual(link.letters(), [(0, PAGE_A), (0, PAGE_B), (0, SEAL), (1, PAGE_A)])
        self.assertIs(link.deliver(3), True)
        self.assertEqual([link.shown(0), link.shown(1)], [EMPTY, VERSION])

    def test_delivering_one_in_the_middle(self):
        link = linked(1)
        link.post()
        self.assertIs(link.deliver(1), False)
        self.assertEqual(link.letters(), [(0, PAGE_A), (0, SEAL)])

    def test_a_doubled_letter_is_delivered_to_the_same_mirror(self):
        link = linked(2)
        link.post()
        for at in (3, 4, 5):
            link.duplicate(at)
        for _ in range(6):
            link.drop(0)
        self.assertEqual([link.deliver(0) for _ in range(3)], [False, False, True])
        self.assertEqual([link.shown(0), link.shown(1)], [EMPTY, VERSION])

    def test_a_letter_leaves_the_row_also_if_the_mirror_refuses_it(self):
        link = linked(2)
        # No house tells anything unlike, so that the mirror has to hear it elsewhere.
        link._mirrors[1].hear(("page", 1, "a", "unlike"))
        link.post()
        for _ in range(3):
            link.deliver(0)
        self.assertRaises(UnlikeLetters, link.deliver, 0)
        self.assertEqual(link.letters(), [(1, PAGE_B), (1, SEAL)])
        self.assertEqual([link.shown(0), link.shown(1)], [VERSION, EMPTY])
        self.assertRaises(UnlikeLetters, lambda: (link.duplicate(0), link.post(), link.deliver(6)))
        self.assertEqual(len(link.letters()), 8)


class Cuts(unittest.TestCase):
    def assert_closed(self, link):
        self.assertIs(link.is_open(), False)
        for call in (link.sync, link.version, link.clock, link.count, link.history, link.next_due, link.state, link.post):
            self.assertRaises(NotOpen, call)
        # NotOpen comes before the other errors.
        for edit in (put("a", "new"), put("a", "see [b]"), put("A", "x"), pages("a", "a"), ("remove", "A")):
            self.assertRaises(NotOpen, link.edit, edit)
        for ticks in (0, 1, -1, 10001):
            self.assertRaises(NotOpen, link.advance, ticks)

    def test_after_a_cut_it_is_not_open(self):
        link = linked()
        self.assertIsNone(link.cut_power([]))
        self.assert_closed(link)
        link.cut_power([1])
        self.assert_closed(link)

    def test_letters_and_mirrors_remain(self):
        link = linked()
        link.post()
        for _ in range(4):
            link.deliver(0)
        before = seen(link)
        link.cut_power([])
        self.assert_closed(link)
        self.assertEqual(seen(link), before)
        link.duplicate(0)
        link.drop(0)
        self.assertEqual([link.deliver(0), link.deliver(0)], [False, True])
        self.assertEqual([link.shown(0), link.shown(1)], [VERSION, VERSION])
        self.assertRaises(NoLetter, link.deliver, 0)
        self.assertEqual(link.reopen(), 3)
        self.assertEqual([link.shown(0), link.shown(1)], [VERSION, VERSION])

    def test_reopening(self):
        link = linked()
        link.edit(put("a", "kept"))
        link.sync()
        link.edit(put("a", "lost"))
        link.cut_power([])
        self.assertEqual(link.reopen(), 4)
        self.assertIs(link.is_open(), True)
        self.assertEqual(link.history()[3:], [put("a", "kept")])
        self.assertEqual((link.version(), link.clock(), link.state(), link.next_due()), (VERSION, 30, "pausing", 50))
        self.assertEqual(link.advance(100), 130)
        self.assertEqual(link.version()[:2], (2, 4))

    def test_what_a_cut_stores(self):
        for torn, count in (([], 3), ([31], 3), ([32], 4), ([0, 32], 3), ([32, 32], 5), ([32] * 9, 5)):
            link = linked()
            link.edit(put("a", "x"))
            link.edit(put("a", "y"))
            link.cut_power(torn)
            self.assertEqual(link.reopen(), count)

    def test_reopening_an_open_house(self):
        link = linked()
        link.edit(put("a", "waits"))
        link.advance(7)
        self.assertEqual(link.reopen(), 4)
        self.assertEqual((link.clock(), link.next_due(), link.version()), (30, 50, VERSION))
        # Opening has synced it.
        link.cut_power([])
        self.assertEqual(link.reopen(), 4)

    def test_reopening_under_a_cut(self):
        for is_cut_before in (False, True):
            for many in (0, 5, 50, 53):
                link = linked()
                link.post()
                if is_cut_before:
                    link.cut_power([])
                before = seen(link)
                # 6 of the 60 blocks have the log; the others are cleared and flushed.
                link.schedule_cut(many, [])
                self.assertRaises(PowerCut, link.reopen)
                self.assert_closed(link)
                self.assertEqual(seen(link), before)
                self.assertEqual(link.reopen(), 3)
                self.assertEqual(link.version(), VERSION)

    def test_a_cut_that_is_scheduled(self):
        link = linked()
        self.assertIsNone(link.schedule_cut(1, [32]))
        self.assertIs(link.is_open(), True)
        link.edit(put("a", "x"))
        self.assertRaises(PowerCut, link.edit, put("b", "y"))
        self.assert_closed(link)
        self.assertEqual(link.reopen(), 4)

    def test_a_cut_in_sync_and_in_a_lapse_of_time(self):
        for many in (0, 1):
            link = linked()
            link.edit(put("a", "x"))
            link.sync()
            link.schedule_cut(many, [])
            self.assertRaises(PowerCut, link.advance if many else link.sync, *[100] * many)
            self.assert_closed(link)
            self.assertEqual(link.reopen(), 4)
            self.assertEqual(link.version(), VERSION)

    def test_what_cuts_refuse(self):
        link = linked()
        link.edit(put("a", "x"))
        link.schedule_cut(0, [32])
        for call, name in (
            (lambda: link.cut_power([33]), "torn"), (lambda: link.cut_power([0, -1]), "torn"),
            (lambda: link.schedule_cut(-1, [33]), "many"), (lambda: link.schedule_cut(100001, []), "many"),
            (lambda: link.schedule_cut(0, [-1]), "torn"),
        ):
            with self.assertRaises(OutOfRange) as caught:
                call()
            self.assertEqual(caught.exception.name, name)
        self.assertIs(link.is_open(), True)
        self.assertRaises(PowerCut, link.sync)
        self.assertEqual(link.reopen(), 4)


if __name__ == "__main__":
    unittest.main()
