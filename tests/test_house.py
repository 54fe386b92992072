"""Points 33, 34 and 36: what an opened house is, what it appends and syncs, and its letters."""

import random
import unittest

from houses import FIRST, OPTIONS, after, formatted, house_of, records_on, run, seen, versions_on
from models import Model
from pagesatonce.disks import Disk
from pagesatonce.errors import LogFull, NotKept, NotOpen, OutOfRange, PageError, PowerCut, TooManySources
from pagesatonce.house import House
from pagesatonce.publisher import Publisher
from publishers import pages, put
from stores import ZEROS, disk_of, dump, stored, texts_on
from test_publisher_rows import NAMES, some_edit, some_options, some_ticks

EMPTY = (0, 0, 0, (), ())


class Opening(unittest.TestCase):
    def test_a_formatted_disk(self):
        house = House(formatted(40))
        self.assertEqual(seen(house), {
            "version": EMPTY, "clock": 0, "count": 0, "free_blocks": 38, "sources": (), "pages": (),
            "state": "idle", "next_due": None, "history": [], "letters": [("seal", 0, 0, 0, (), ())],
        })

    def test_no_log(self):
        for disk in (Disk(8), disk_of([[7] * 32]), disk_of(texts_on("version 0 0 0"))):
            self.assertRaises(NotKept, House, disk)

    def test_edits_without_a_version_record(self):
        house = house_of('edit 5 set b "B"', 'edit 7 set a "<b>"', "edit 7 pages a c")
        self.assertEqual(house.version(), EMPTY)
        self.assertEqual((house.clock(), house.count()), (7, 3))
        self.assertEqual(house.sources(), (("a", "<b>"), ("b", "B")))
        self.assertEqual(house.pages(), ("a", "c"))
        self.assertEqual(house.history(), [put("b", "B"), put("a", "<b>"), pages("a", "c")])
        self.assertEqual((house.state(), house.next_due()), ("pausing", 27))

    def test_edits_behind_the_last_version_record(self):
        house = house_of('edit 5 set a "[b]"', "edit 6 pages a b", "version 4 2 30", "edit 40 remove a")
        self.assertEqual(house.version(), (4, 2, 30, (("a", "[b]"), ("b", "?")), ()))
        self.assertEqual((house.clock(), house.count(), house.sources()), (40, 3, ()))
        self.assertEqual((house.state(), house.next_due()), ("pausing", 60))

    def test_no_edits_behind_the_last_version_record(self):
        house = house_of('edit 5 set a "[b]"', "edit 6 pages a", "version 4 2 30")
        self.assertEqual(house.version(), (4, 2, 30, (), (("a", ("link", "b")),)))
        self.assertEqual((house.clock(), house.count()), (30, 2))
        self.assertEqual((house.state(), house.next_due()), ("idle", None))

    def test_a_version_record_without_edits(self):
        house = house_of("version 7 0 9")
        self.assertEqual(house.version(), (7, 0, 9, (), ()))
        self.assertEqual((house.clock(), house.state()), (9, "idle"))

    def test_the_last_version_record_counts(self):
        house = house_of('edit 5 set a "x"', "edit 6 pages a", "version 4 1 6", "version 5 2 6")
        self.assertEqual(house.version(), (5, 2, 6, (("a", "x"),), ()))

    def test_its_version_is_that_of_its_count_of_edits(self):
        texts = ['edit 1 set a "x"', "edit 1 pages a", 'edit 2 set a "!!!"', "edit 3 pages b", 'edit 4 set b "y"']
        parts = [((), ()), ((), ()), ((("a", "x"),), ()), ((), (("a", ("failed", "a")),)),
                 ((("b", "?"),), ()), ((("b", "y"),), ())]
        for count in range(6):
            house = house_of(*texts, f"version 8 {count} 3")
            self.assertEqual(house.version(), (8, count, 3, *parts[count]))
            self.assertEqual(house.state(), "idle" if count == 5 else "pausing")

    def test_the_clock_is_at_the_greatest_time(self):
        self.assertEqual(house_of("edit 5 pages a", "version 1 1 3").clock(), 5)
        self.assertEqual(house_of("edit 5 pages a", "version 1 1 30").clock(), 30)
        self.assertEqual(house_of("edit 5 pages a", "version 1 1 30", "edit 20 pages b").clock(), 30)
        self.assertEqual(house_of("edit 5 pages a", "version 1 1 30", "edit 31 pages b").clock(), 31)

    def test_the_timers_of_an_edit_now(self):
        house = house_of('edit 5 set a "x"', "edit 6 pages a", "version 1 1 40")
        self.assertEqual((house.clock(), house.next_due()), (40, 60))
        # Edits that come before each pause is over: the wait timer of the opening freezes them.
        for _ in range(5):
            house.advance(19)
            house.edit(put("b", str(house.clock())))
        self.assertEqual((house.clock(), house.next_due(), house.state()), (135, 140, "pausing"))
        house.advance(5)
        self.assertEqual(house.state(), "frozen")

    def test_its_cache_is_empty(self):
        disk = formatted()
        house = House(disk)
        for edit in (put("a", "x"), pages("a")):
            house.edit(edit)
        run(house)
        house = House(disk)
        # The text of before has to be rendered again, with 10 ticks.
        house.edit(put("b", "y"))
        house.advance(20)
        self.assertEqual((house.state(), house.next_due()), ("rendering", 60))

    def test_it_goes_on_as_a_publisher_that_resumes(self):
        dice = random.Random(33)
        for _ in range(25):
            options = some_options(dice)
            disk = formatted(400, options)
            house = House(disk)
            for _ in range(dice.randint(0, 25)):
                house.edit(some_edit(dice, NAMES))
                house.advance(some_ticks(dice, options))
            told, history = house.version(), house.history()
            times = [0] + [record[3] if record[0] == "version" else record[1] for record in records_on(disk)[1:]]
            house = House(disk)
            publisher = Publisher(options, max(times))
            publisher.resume(history, told)
            self.assertEqual(house.history(), history)
            for _ in range(30):
                self.assert_same(house, publisher)
                ticks = some_ticks(dice, options)
                self.assertEqual(house.advance(ticks), publisher.advance(ticks))
                self.assert_same(house, publisher)
                edit = some_edit(dice, NAMES)
                self.assertIs(house.edit(edit), publisher.edit(edit))

    def assert_same(self, house, publisher):
        for name in ("version", "clock", "count", "sources", "pages", "state", "next_due"):
            self.assertEqual(getattr(house, name)(), getattr(publisher, name)(), name)

    def test_the_work_of_a_publisher_from_the_beginning(self):
        dice = random.Random(34)
        for _ in range(25):
            options = some_options(dice)
            house, publisher = House(formatted(400, options)), Publisher(options)
            for _ in range(40):
                edit, ticks = some_edit(dice, NAMES), some_ticks(dice, options)
                self.assertIs(house.edit(edit), publisher.edit(edit))
                self.assert_same(house, publisher)
                self.assertEqual(house.advance(ticks), publisher.advance(ticks))
                self.assert_same(house, publisher)


class Appending(unittest.TestCase):
    def test_edits_with_their_times(self):
        disk = formatted()
        house = House(disk)
        self.assertIs(house.edit(put("a", "x <b>")), True)
        house.advance(3)
        house.edit(pages("a", "b"))
        house.advance(4)
        house.edit(("remove", "a"))
        edits = [("edit", 0, put("a", "x <b>")), ("edit", 3, pages("a", "b")), ("edit", 7, ("remove", "a"))]
        self.assertEqual(dump(disk)[2:6], texts_on(FIRST, 'edit 0 set a "x <b>"', "edit 3 pages a b", "edit 7 remove a",
                                                   )[2:] + [ZEROS])
        self.assertEqual(records_on(disk), [("options", OPTIONS), *edits])

    def test_an_edit_waits_until_a_sync(self):
        disk = formatted()
        house = House(disk)
        house.edit(put("a", "x"))
        house.edit(pages("a"))
        self.assertEqual(disk.pending_count(), 2)
        self.assertEqual(house.sync(), 2)
        self.assertEqual(disk.pending_count(), 0)
        self.assertEqual(house.sync(), 2)
        house.edit(pages())
        self.assertEqual(stored(disk)[2:6], texts_on(FIRST, 'edit 0 set a "x"', "edit 0 pages a")[2:] + [ZEROS] * 2)

    def test_what_changes_nothing_is_no_edit(self):
        disk = formatted()
        house = House(disk)
        house.edit(put("a", "x"))
        house.edit(pages("a"))
        before, blocks = seen(house), dump(disk)
        for edit in (put("a", "x"), pages("a"), ("remove", "b")):
            self.assertIs(house.edit(edit), False)
            self.assertEqual((seen(house), dump(disk), disk.pending_count()), (before, blocks, 2))
        # Not even the power can be cut.
        disk.schedule_cut(0, [])
        self.assertIs(house.edit(pages("a")), False)

    def test_what_is_refused_appends_nothing(self):
        disk = formatted()
        house = House(disk)
        for name in "abcdefghijkl":
            house.edit(put(name, "x"))
        before, blocks = seen(house), dump(disk)
        for edit, name in ((put("A", "x"), "name"), (put("", '"'), "name"), (put("a", '"'), "text"), (put("m", "\n"), "text"),
                           (put("a", "x" * 61), "text"), (("remove", "abcdefg"), "name"), (pages("a", "a"), "pages"),
                           (pages(*"abcdefg"), "pages")):
            with self.assertRaises(OutOfRange) as caught:
                house.edit(edit)
            self.assertEqual(caught.exception.name, name)
        self.assertRaises(TooManySources, house.edit, put("m", "x"))
        for ticks in (-1, 10001):
            with self.assertRaises(OutOfRange) as caught:
                house.advance(ticks)
            self.assertEqual(caught.exception.name, "ticks")
        self.assertEqual((seen(house), dump(disk), disk.pending_count()), (before, blocks, 12))

    def test_ticks(self):
        house = House(formatted())
        self.assertEqual(house.advance(0), 0)
        for _ in range(999):
            house.advance(10000)
        self.assertEqual(house.advance(9999), 9999999)
        self.assertEqual(house.advance(0), 9999999)
        for ticks in (1, 2, 10000):
            self.assertRaises(OutOfRange, house.advance, ticks)
        self.assertEqual(house.clock(), 9999999)
        house.edit(pages("a"))
        self.assertEqual(house.sync(), 1)

    def test_a_version_is_appended_and_synced_behind_the_timer(self):
        disk = formatted()
        house = House(disk)
        for edit in (put("a", "x"), pages("a")):
            house.edit(edit)
        house.advance(29)
        self.assertEqual((house.version(), disk.pending_count()), (EMPTY, 2))
        house.advance(1)
        self.assertEqual(house.version(), (1, 2, 30, (("a", "x"),), ()))
        self.assertEqual(disk.pending_count(), 0)
        self.assertEqual(
            stored(disk)[2:6], texts_on(FIRST, 'edit 0 set a "x"', "edit 0 pages a", "version 1 2 30")[2:] + [ZEROS])

    def test_versions_in_one_lapse_of_time_are_appended_each(self):
        disk = formatted(400, (1, 10, 1, 1, 1, 10, 4))
        house = House(disk)
        for edit in (put("a", "x"), pages("a")):
            house.edit(edit)
        house.advance(5)
        self.assertEqual(house.state(), "frozen")
        house.edit(put("a", "y"))
        house.advance(200)
        # Frozen at 4 and rendered until 14; what was edited at 5 has waited, is frozen at once, and rendered until 24.
        self.assertEqual(versions_on(disk), [(1, 2, 4), (2, 3, 14)])
        self.assertEqual(house.version(), (2, 3, 14, (("a", "y"),), ()))

    def test_a_timer_that_publishes_twice(self):
        disk = formatted(400, (1, 10, 1, 1, 1, 5, 3))
        house, publisher = House(disk), Publisher((1, 10, 1, 1, 1, 5, 3))
        for one in (house, publisher):
            one.edit(put("a", "x"))
            one.edit(pages("a"))
            one.advance(4)
            one.edit(pages("b"))
            one.advance(8)
            self.assertEqual((one.state(), one.version()), ("frozen", EMPTY))
            one.advance(1)
        self.assertEqual(publisher.published(), 2)
        self.assertEqual(house.version(), publisher.version())
        self.assertEqual(house.version(), (2, 3, 13, (("b", "?"),), ()))
        # The house appends the version as it is then, once.
        self.assertEqual(versions_on(disk), [(2, 3, 13)])

    def test_a_version_without_a_change_is_appended_too(self):
        disk = formatted()
        house = House(disk)
        house.edit(put("a", "x"))
        run(house)
        house.edit(put("a", "y"))
        run(house)
        self.assertEqual(versions_on(disk), [(0, 1, 20), (0, 2, 40)])
        self.assertEqual(house.version(), (0, 2, 40, (), ()))

    def test_a_timer_that_publishes_nothing_appends_nothing(self):
        disk = formatted()
        house = House(disk)
        for edit in (put("a", "!!x"), pages("a")):
            house.edit(edit)
        blocks = dump(disk)
        # The pause, two attempts that fail, two delays; at the end of the third one it publishes.
        for due in (20, 30, 35, 45, 55):
            self.assertEqual(house.next_due(), due)
            house.advance(due - house.clock())
            self.assertEqual((dump(disk), disk.pending_count(), house.version()), (blocks, 2, EMPTY))
        house.advance(10)
        self.assertEqual(house.version(), (1, 2, 65, (("a", "!!x"),), ()))

    def test_what_is_appended_over_long_rows(self):
        dice = random.Random(35)
        for _ in range(15):
            options = some_options(dice)
            disk = formatted(400, options)
            house, edits, versions = House(disk), [], []
            for _ in range(40):
                edit = some_edit(dice, NAMES)
                if house.edit(edit):
                    edits.append((house.clock(), edit))
                for _ in range(dice.randint(0, 8)):
                    if house.next_due() is None:
                        break
                    before = house.version()
                    house.advance(house.next_due() - house.clock())
                    if house.version() != before:
                        versions.append(house.version())
                        # All edits before the version are synced, too.
                        self.assertEqual(disk.pending_count(), 0)
            records = records_on(disk)
            self.assertEqual([record[1:] for record in records if record[0] == "edit"], edits)
            self.assertEqual(
                [record[1:] for record in records if record[0] == "version"], [version[:3] for version in versions])
            self.assertEqual(house.history(), [edit for _, edit in edits])
            self.assertEqual(house.free_blocks(), dump(disk).count(ZEROS))
            for version in versions:
                sources, names = after(house.history()[:version[1]])
                self.assertEqual(version[3:], Model(sources, options[2]).publish(names))

    def test_lists_are_new(self):
        house = house_of('edit 5 set a "x"', "edit 6 pages a", "version 1 2 6")
        before = seen(house)
        house.history().clear()
        house.letters().clear()
        house.history().append(("remove", "a"))
        self.assertEqual(seen(house), before)


class Full(unittest.TestCase):
    ONE = pages("y")
    FOUR = put("abcdef", "x" * 60)

    def texts(self, many):
        return [f"edit 0 pages {'xy'[at % 2]}" for at in range(many)]

    def test_opening_with_edits_behind_the_version(self):
        # Records of one block each behind the two of the options.
        for left in (0, 1, 2, 3):
            for version in ([], ["version 1 5 0"]):
                texts = version_after(self.texts(18 - left - len(version)), version)
                disk = disk_of(texts_on(FIRST, *texts), 20)
                if left < 2:
                    self.assertRaises(LogFull, House, disk)
                else:
                    house = House(disk)
                    self.assertEqual((house.free_blocks(), house.state()), (left, "pausing"))
                    run(house)
                    self.assertEqual(house.version()[1], house.count())
                    self.assertEqual(versions_on(disk)[-1], house.version()[:3])

    def test_opening_without_edits_behind_the_version(self):
        for left in (0, 1, 2):
            many = 17 - left
            house = house_of(*self.texts(many), f"version 1 {many} 0", size=20)
            self.assertEqual((house.free_blocks(), house.state()), (left, "idle"))
            self.assertEqual(house.advance(500), 500)

    def test_opening_that_is_refused_changes_nothing(self):
        disk = disk_of(texts_on(FIRST, *self.texts(17)) + [[7] * 32], 20)
        disk.write(19, [9] * 32)
        disk.schedule_cut(0, [])
        before = dump(disk)
        # LogFull comes before PowerCut.
        self.assertRaises(LogFull, House, disk)
        self.assertEqual((dump(disk), disk.pending_count(), disk.cut_count()), (before, 1, 0))

    def test_no_log_comes_before_the_cut(self):
        disk = Disk(8)
        disk.schedule_cut(0, [])
        self.assertRaises(NotKept, House, disk)
        self.assertEqual(disk.cut_count(), 0)

    def test_an_edit_at_the_last_block_and_one_below(self):
        for edit, blocks in ((self.ONE, 1), (self.FOUR, 4)):
            for left in (0, 1, blocks + 2, blocks + 3, blocks + 4, blocks + 5):
                many = 2 * ((17 - left) // 2)
                # The number of edits is even, so that the pages are those of the second text.
                texts = self.texts(many)[:-1] + ["edit 0 pages x z"]
                filler = [f"version {at} {many} 0" for at in range(18 - left - many)]
                disk = disk_of(texts_on(FIRST, *texts, *filler), 20)
                house = House(disk)
                self.assertEqual(house.free_blocks(), left)
                if left >= blocks + 4:
                    self.assertIs(house.edit(edit), True)
                    self.assertEqual(house.free_blocks(), left - blocks)
                    run(house)
                    self.assertEqual(house.version()[1], many + 1)
                    continue
                disk.schedule_cut(0, [])
                before, stays = seen(house), dump(disk)
                self.assertRaises(LogFull, house.edit, edit)
                self.assertEqual((seen(house), dump(disk), disk.pending_count(), disk.cut_count()), (before, stays, 0, 0))
                # What is no edit, or out of bounds, is told first.
                self.assertIs(house.edit(pages("x", "z")), False)
                self.assertRaises(OutOfRange, house.edit, put("A", "x"))

    def test_too_many_sources_comes_before_a_full_log(self):
        texts = [f'edit 0 set {name} "x"' for name in "abcdefghijkl"]
        house = house_of(*texts, "version 0 12 0", size=18)
        self.assertEqual(house.free_blocks(), 3)
        self.assertRaises(TooManySources, house.edit, put("m", "x"))
        self.assertRaises(LogFull, house.edit, put("a", "y"))

    def test_time_can_pass_whatever_is_edited_until_the_log_is_full(self):
        dice = random.Random(36)
        for _ in range(120):
            options = (*some_options(dice)[:5], dice.randint(1, 9), dice.choice([1, 5, 30]))
            disk = formatted(dice.randint(8, 30), options)
            house = House(disk)
            refused = 0
            while refused < 3:
                try:
                    house.edit(some_edit(dice, NAMES))
                except LogFull:
                    refused += 1
                house.advance(some_ticks(dice, options))
                if dice.random() < 0.1:
                    house = House(disk)
                # The versions until the next edit fit, however long this takes.
                self.assertGreaterEqual(house.free_blocks(), 0)
            run(house)
            self.assertEqual(house.version()[1], house.count())
            self.assertEqual(versions_on(disk)[-1:], [house.version()[:3]] if house.count() else [])


def version_after(edits, version):
    """These edits with a version record behind the 5th one."""
    return edits[:5] + version + edits[5:]


class Closed(unittest.TestCase):
    def test_what_is_refused_after_a_cut(self):
        disk = formatted(8)
        house = House(disk)
        house.edit(pages("a"))
        house.edit(pages("b"))
        disk.cut_power([])
        before, blocks = seen(house), dump(disk)
        disk.schedule_cut(0, [])
        # NotOpen comes before all other errors, and before the answer that it is no edit.
        for edit in (pages("c"), pages("b"), pages("b", "b"), put("A", "x"), put("a", '"'), ("remove", "A"),
                     put("abcdef", "x" * 60)):
            self.assertRaises(NotOpen, house.edit, edit)
        for ticks in (0, 1, 500, -1, 10001):
            self.assertRaises(NotOpen, house.advance, ticks)
        self.assertRaises(NotOpen, house.sync)
        self.assertEqual((seen(house), dump(disk), disk.pending_count(), disk.cut_count()), (before, blocks, 0, 1))

    def test_a_house_that_is_opened_afterwards(self):
        disk = formatted()
        old = House(disk)
        old.edit(pages("a"))
        old.sync()
        old.edit(pages("b"))
        disk.cut_power([])
        house = House(disk)
        self.assertEqual((house.count(), old.count()), (1, 2))
        self.assertIs(house.edit(pages("c")), True)
        self.assertRaises(NotOpen, old.edit, pages("d"))

    def test_an_edit_that_is_cut_is_not_made(self):
        edit = put("abcdef", "x" * 60)
        for many in range(4):
            for torn, kept in (([], 1), ([32] * 9, 2)):
                disk = formatted()
                house = House(disk)
                house.edit(pages("a"))
                house.sync()
                house.edit(pages("b"))
                before = seen(house)
                disk.schedule_cut(many, torn)
                self.assertRaises(PowerCut, house.edit, edit)
                self.assertEqual(seen(house), before)
                self.assertRaises(NotOpen, house.edit, edit)
                self.assertEqual(House(disk).count(), kept)

    def test_a_sync_that_is_cut(self):
        for torn, kept in (([], 0), ([31], 0), ([32], 1), ([32, 32], 2)):
            disk = formatted()
            house = House(disk)
            house.edit(pages("a"))
            house.edit(pages("b"))
            disk.schedule_cut(0, torn)
            self.assertRaises(PowerCut, house.sync)
            self.assertRaises(NotOpen, house.sync)
            self.assertEqual(House(disk).count(), kept)

    def test_a_version_whose_appending_is_cut_is_not_told(self):
        for many in (0, 1):
            for torn in ([], [32] * 9):
                disk = formatted()
                house = House(disk)
                for edit in (put("a", "x"), pages("a")):
                    house.edit(edit)
                house.sync()
                disk.schedule_cut(many, torn)
                self.assertRaises(PowerCut, house.advance, 500)
                self.assertEqual((house.version(), house.letters()), (EMPTY, [("seal", 0, 0, 0, (), ())]))
                for call in (house.sync, lambda: house.advance(1), lambda: house.edit(pages("b"))):
                    self.assertRaises(NotOpen, call)
                again = House(disk)
                self.assertEqual(again.count(), 2)
                appended = many == 1 and torn != []
                self.assertEqual(again.version(), (1, 2, 30, (("a", "x"),), ()) if appended else EMPTY)

    def test_time_that_passes_without_a_write_is_not_cut(self):
        disk = formatted()
        house = House(disk)
        for edit in (put("a", "x"), pages("a")):
            house.edit(edit)
        disk.schedule_cut(0, [])
        self.assertEqual(house.advance(29), 29)
        self.assertRaises(PowerCut, house.advance, 1)

    def test_all_are_errors_of_the_package(self):
        for kind in (NotKept, LogFull, PowerCut, NotOpen):
            self.assertTrue(issubclass(kind, PageError))


class Letters(unittest.TestCase):
    def test_pages_in_order_and_then_the_seal(self):
        house = house_of('edit 1 set b "B"', 'edit 2 set a "see [b]"', 'edit 2 set d "[x]"', "edit 3 pages b d a",
                         "version 7 4 9")
        self.assertEqual(house.letters(), [
            ("page", 7, "b", "B"), ("page", 7, "a", "see [b]"),
            ("seal", 7, 4, 9, ("b", "a"), (("d", ("link", "x")),)),
        ])

    def test_a_version_without_pages(self):
        house = house_of('edit 1 set a "!!!"', "edit 1 pages a", "version 2 2 5")
        self.assertEqual(house.letters(), [("seal", 2, 2, 5, (), (("a", ("failed", "a")),))])

    def test_those_of_the_version_that_is_told(self):
        house = House(formatted())
        for edit in (put("a", "x"), pages("a")):
            house.edit(edit)
        self.assertEqual(house.letters(), [("seal", 0, 0, 0, (), ())])
        run(house)
        self.assertEqual(house.letters(), [("page", 1, "a", "x"), ("seal", 1, 2, 30, ("a",), ())])
        house.edit(put("a", "y"))
        self.assertEqual(house.letters(), [("page", 1, "a", "x"), ("seal", 1, 2, 30, ("a",), ())])


if __name__ == "__main__":
    unittest.main()
