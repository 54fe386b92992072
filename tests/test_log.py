"""Points 31 and 32: formatting, opening, which records are read, appending, and what fits on the disk."""

import unittest

from pagesatonce.disks import Disk
from pagesatonce.errors import LogFull, NotKept, NotOpen, OutOfRange, PowerCut
from pagesatonce.log import format_disk, open_log
from pagesatonce.records import read_record, write_record
from stores import ZEROS, disk_of, dump, is_cut, piece, pieces, stored, texts_on

OPTIONS = (2, 10, 3, 5, 15, 20, 100)
FIRST = "options 2 10 3 5 15 20 100"
OTHER_BYTES = [7] * 32


def formatted(size=40, options=OPTIONS):
    disk = Disk(size)
    format_disk(disk, options)
    return disk


class Formatting(unittest.TestCase):
    def test_record_0_and_zeros(self):
        for size in (8, 40, 400):
            disk = formatted(size)
            self.assertEqual(dump(disk), texts_on(FIRST) + [ZEROS] * (size - 2))
            self.assertEqual(disk.pending_count(), 0)
            self.assertEqual(stored(disk), texts_on(FIRST) + [ZEROS] * (size - 2))

    def test_it_returns_none(self):
        self.assertIsNone(format_disk(Disk(8), OPTIONS))

    def test_what_was_there_before_is_gone(self):
        disk = disk_of([OTHER_BYTES] * 40)
        disk.write(20, [9] * 32)
        format_disk(disk, (1, 1, 1, 1, 1, 1, 1))
        self.assertEqual(stored(disk), texts_on("options 1 1 1 1 1 1 1") + [ZEROS] * 39)

    def test_options_in_and_out_of_bounds(self):
        least, most = (1, 1, 1, 1, 1, 1, 1), (3, 100, 4, 100, 400, 200, 2000)
        for options in (least, most):
            self.assertEqual(open_log(formatted(8, options)).records(), [("options", options)])
        for at in range(7):
            for value in (0, -1, most[at] + 1):
                disk = disk_of([OTHER_BYTES] * 3, 8)
                disk.write(4, OTHER_BYTES)
                disk.schedule_cut(0, [])
                with self.assertRaises(OutOfRange) as caught:
                    format_disk(disk, most[:at] + (value,) + most[at + 1:])
                self.assertEqual(caught.exception.name, "options")
                self.assertEqual((disk.cut_count(), disk.pending_count()), (0, 1))
                self.assertEqual(dump(disk)[:6], [OTHER_BYTES] * 3 + [ZEROS, OTHER_BYTES, ZEROS])

    def test_a_write_for_each_block_and_a_flush(self):
        disk = Disk(12)
        disk.schedule_cut(13, [])
        format_disk(disk, OPTIONS)
        self.assertTrue(is_cut(disk.flush))


class NoLog(unittest.TestCase):
    """Disks whose first record cannot be read: nothing of them is changed."""

    def assert_none(self, blocks):
        disk = disk_of(blocks, 20)
        disk.write(15, OTHER_BYTES)
        disk.schedule_cut(0, [])
        before = dump(disk)
        self.assertRaises(NotKept, open_log, disk)
        self.assertEqual((dump(disk), disk.pending_count(), disk.cut_count()), (before, 1, 0))

    def test_zeros(self):
        self.assert_none([])
        self.assertRaises(NotKept, open_log, Disk(8))

    def test_other_bytes(self):
        self.assert_none([OTHER_BYTES])
        self.assert_none([ZEROS] + texts_on(FIRST))

    def test_a_first_record_of_another_kind(self):
        for text in ("edit 0 pages a", "version 0 0 0", "options", "optionz 1 1 1 1 1 1 1", "some other text"):
            self.assert_none(texts_on(text))
            self.assert_none(texts_on(text) + pieces(1, FIRST))

    def test_options_out_of_bounds(self):
        for text in ("options 0 1 1 1 1 1 1", "options 1 1 1 1 1 1 2001", "options 01 1 1 1 1 1 1"):
            self.assert_none(texts_on(text))

    def test_another_number_of_the_record(self):
        for number in (1, 256, 65535):
            self.assert_none(pieces(number, FIRST))

    def test_a_block_of_it_that_is_not_right(self):
        for at in range(2):
            for place in range(32):
                blocks = texts_on(FIRST)
                blocks[at][place] = (blocks[at][place] + 1) % 256
                # Another digit or another sign may be a right one, too.
                if blocks[at][place] not in range(33, 127) or place < 6 or place == 31:
                    self.assert_none(blocks)

    def test_a_block_of_it_that_is_missing(self):
        blocks = texts_on(FIRST)
        self.assert_none(blocks[:1])
        self.assert_none(blocks[1:])
        self.assert_none([blocks[1], blocks[0]])
        self.assert_none([blocks[0], blocks[0], blocks[1]])
        self.assert_none([blocks[0], ZEROS, blocks[1]])


class Ends(unittest.TestCase):
    """Logs that end at a record that is none, or that does not fit."""

    BEFORE = [FIRST, 'edit 5 set a "x"', "version 1 1 7", "edit 9 pages a", 'edit 9 set b "y"', "version 2 3 9"]
    # Sources a and b, pages a, 3 edits, the last one at 9, and the last version 2 3 9.

    def assert_ends(self, texts, blocks, size=60):
        """What is behind these records is no part of the log, and is cleared."""
        kept = texts_on(*texts)
        disk = disk_of(kept + blocks, size)
        for _ in range(2):
            log = open_log(disk)
            self.assertEqual(log.records(), [read_record(text) for text in texts])
            self.assertEqual(log.free_blocks(), size - len(kept))
            self.assertEqual(dump(disk), kept + [ZEROS] * (size - len(kept)))
            self.assertEqual(disk.pending_count(), 0)
        self.assertEqual(stored(disk), kept + [ZEROS] * (size - len(kept)))

    def assert_not(self, *wrong, before=BEFORE):
        """None of these texts can be that of the next record, whatever is behind it."""
        number = len(before)
        right = 'edit 9 set q "right"'
        for text in wrong:
            blocks = pieces(number, text)
            self.assert_ends(before, blocks)
            self.assert_ends(before, blocks + pieces(number + 1, right))
            self.assert_ends(before, blocks + pieces(number, right))
            self.assert_ends(before, blocks + [OTHER_BYTES, ZEROS, OTHER_BYTES])
            self.assert_ends(before, blocks + [OTHER_BYTES] * (60 - len(texts_on(*before)) - len(blocks)))

    def assert_fits(self, *right, before=BEFORE):
        for text in right:
            self.assert_ends([*before, text], [])
            self.assert_ends([*before, text], [OTHER_BYTES])

    def test_no_record_behind(self):
        self.assert_ends(self.BEFORE, [])
        self.assert_ends([FIRST], [])
        self.assert_ends([FIRST], [ZEROS, OTHER_BYTES])
        self.assert_ends(self.BEFORE, [OTHER_BYTES])

    def test_texts_that_are_none_of_a_record(self):
        self.assert_not("something", "edit 9", "edit 9 remove", "edit  9 remove a", "edit 09 remove a", "version 2 3",
                        "version 2 3 10000000", 'edit 9 set a "x" ', 'edit 9 set A "x"', "remove a", " ")

    def test_options_again(self):
        self.assert_not(FIRST, "options 1 1 1 1 1 1 1")
        self.assert_not(FIRST, before=[FIRST])

    def test_times_of_edits(self):
        self.assert_not("edit 8 remove a", "edit 0 remove a")
        self.assert_fits("edit 9 remove a", "edit 10 remove a", "edit 9999999 remove a")

    def test_times_of_edits_and_of_versions_do_not_depend_on_one_another(self):
        before = [FIRST, "edit 5 pages a", "version 1 1 90"]
        self.assert_fits("edit 5 pages b", "edit 89 pages b", before=before)
        self.assert_not("edit 4 pages b", before=before)
        self.assert_fits("version 0 1 0", "version 7 1 4", before=before[:2])

    def test_edits_that_change_nothing(self):
        self.assert_not('edit 9 set a "x"', 'edit 9 set b "y"', "edit 9 remove c", "edit 9 pages a")
        self.assert_fits('edit 9 set a "y"', 'edit 9 set c "x"', "edit 9 remove b", "edit 9 pages a b", "edit 9 pages")
        self.assert_not("edit 0 pages", "edit 0 remove a", before=[FIRST])
        self.assert_fits('edit 0 set a ""', before=[FIRST])

    def test_edits_that_take_back_others(self):
        self.assert_fits('edit 9 set a "x"', before=[*self.BEFORE, "edit 9 remove a"])
        self.assert_not("edit 9 remove a", before=[*self.BEFORE, "edit 9 remove a"])
        self.assert_fits("edit 9 pages a", before=[*self.BEFORE, "edit 9 pages"])

    def test_a_13th_source(self):
        before = [FIRST] + [f'edit 0 set {name} "x"' for name in "abcdefghijkl"]
        self.assert_not('edit 0 set m "x"', before=before)
        self.assert_fits('edit 0 set l "y"', "edit 0 remove a", before=before)
        self.assert_fits('edit 0 set m "x"', before=[*before, "edit 0 remove a"])

    def test_edits_out_of_bounds(self):
        self.assert_not('edit 9 set abcdefg "x"', f'edit 9 set c "{"x" * 61}"', "edit 9 pages a b c d e f g",
                        "edit 9 pages a a", "edit 9 remove abcdefg")

    def test_versions_that_go_back(self):
        # Each in one number alone, the others are greater.
        self.assert_not("version 1 3 10", "version 3 2 10", "version 3 3 8", "version 0 0 0")
        self.assert_fits("version 2 3 9", "version 3 3 9", "version 2 3 10", "version 9 3 9999999")
        self.assert_fits("version 2 4 9", before=[*self.BEFORE, "edit 9 pages b"])

    def test_versions_of_more_edits_than_there_are(self):
        self.assert_not("version 3 4 10", "version 3 5 10")
        self.assert_not("version 0 1 0", before=[FIRST])
        self.assert_fits("version 0 0 0", "version 5 0 0", "version 0 0 5", before=[FIRST])

    def test_versions_in_the_middle_of_edits(self):
        self.assert_fits("version 1 1 0", "version 1 0 0", "version 1 2 0",
                         before=[FIRST, "edit 0 pages a", "edit 1 pages b"])

    def test_another_number_of_the_record(self):
        number = len(self.BEFORE)
        for other in (0, number - 1, number + 1, number + 256):
            self.assert_ends(self.BEFORE, pieces(other, "edit 9 remove a"))

    def test_a_piece_of_another_record(self):
        number = len(self.BEFORE)
        text = f'edit 9 set c "{"z" * 60}"'
        blocks = pieces(number, text)
        self.assertEqual(len(blocks), 4)
        for at in range(4):
            for other in (ZEROS, OTHER_BYTES, pieces(number + 1, text)[at], pieces(number, text + "  ")[at - 1]):
                self.assert_ends(self.BEFORE, blocks[:at] + [other] + blocks[at + 1:])
            self.assert_ends(self.BEFORE, blocks[:at] + blocks[at + 1:] + [ZEROS])
        for at in range(1, 4):
            self.assert_ends(self.BEFORE, blocks[:at] + pieces(number, "edit 9 remove a"))
        self.assert_ends(self.BEFORE, [blocks[0], blocks[2], blocks[1], blocks[3]])

    def test_another_number_of_pieces(self):
        number = len(self.BEFORE)
        text = 'edit 9 set c "some text"'
        self.assertEqual(len(pieces(number, text)), 1)
        for many in (2, 15, 16, 255):
            self.assert_ends(self.BEFORE, [piece(0, many, number, text)] + [ZEROS] * 3)
        self.assert_ends(self.BEFORE, [piece(0, 2, number, text[:10]), piece(1, 2, number, text[10:])])
        self.assert_ends(self.BEFORE, [piece(0, 1, number, text), piece(1, 2, number, text)][1:])

    def test_more_pieces_than_a_record_has(self):
        number = len(self.BEFORE)
        blocks = [piece(at, 16, number, "x" * 24) for at in range(16)]
        self.assert_ends(self.BEFORE, blocks)

    def test_a_record_that_goes_beyond_the_last_block(self):
        before = [FIRST] + [f"edit 0 pages {name}" for name in "abcde"]
        blocks = pieces(6, 'edit 0 set a "some words and more"')
        self.assertEqual((len(texts_on(*before)), len(blocks)), (7, 2))
        self.assert_ends(before, blocks[:1], 8)
        self.assert_ends([*before, 'edit 0 set a "some words and more"'], [], 9)

    def test_a_log_up_to_the_last_block(self):
        before = [FIRST] + [f"edit 0 pages {name}" for name in "abcdef"]
        self.assert_ends(before, [], 8)

    def test_what_waits_is_opened_and_stored(self):
        disk = disk_of(texts_on(*self.BEFORE[:3]))
        for at, block in enumerate(texts_on(*self.BEFORE)):
            disk.write(at, block)
        disk.write(30, OTHER_BYTES)
        self.assertEqual(len(open_log(disk).records()), 6)
        self.assertEqual(disk.pending_count(), 0)
        self.assertEqual(stored(disk), texts_on(*self.BEFORE) + [ZEROS] * (40 - len(texts_on(*self.BEFORE))))

    def test_a_write_for_each_block_behind_and_a_flush(self):
        for texts, size in ((self.BEFORE, 20), ([FIRST] + [f"edit 0 pages {name}" for name in "abcdef"], 8)):
            disk = disk_of(texts_on(*texts), size)
            many = size - len(texts_on(*texts)) + 1
            disk.schedule_cut(many, [])
            open_log(disk)
            self.assertTrue(is_cut(disk.flush))


class Appending(unittest.TestCase):
    def test_how_many_records_there_are_then(self):
        log = open_log(formatted())
        self.assertEqual(log.append(("edit", 3, ("pages", ("a",)))), 2)
        self.assertEqual(log.append(("version", 1, 1, 3)), 3)
        self.assertEqual(log.records()[1:], [("edit", 3, ("pages", ("a",))), ("version", 1, 1, 3)])

    def test_it_waits_until_a_sync(self):
        disk = formatted()
        log = open_log(disk)
        record = ("edit", 3, ("set", "a", "some words, more than one block has"))
        log.append(record)
        self.assertEqual(disk.pending_count(), 3)
        self.assertEqual(dump(disk)[2:6], pieces(1, write_record(record)) + [ZEROS])
        self.assertIsNone(log.sync())
        self.assertEqual(disk.pending_count(), 0)
        self.assertEqual(stored(disk)[2:6], pieces(1, write_record(record)) + [ZEROS])

    def test_what_is_appended_is_opened_again(self):
        disk = formatted()
        log = open_log(disk)
        records = [read_record(text) for text in Ends.BEFORE]
        for record in records[1:]:
            log.append(record)
        for _ in range(2):
            self.assertEqual(open_log(disk).records(), records)
            self.assertEqual(dump(disk)[:10], (texts_on(*Ends.BEFORE) + [ZEROS] * 40)[:10])

    def test_after_opening_it_goes_on_behind_the_records(self):
        disk = disk_of(texts_on(*Ends.BEFORE) + [OTHER_BYTES] * 5)
        log = open_log(disk)
        self.assertEqual(log.append(("edit", 9, ("remove", "a"))), 7)
        self.assertEqual(dump(disk), texts_on(*Ends.BEFORE, "edit 9 remove a") + [ZEROS] * (40 - 8))

    def test_many_records(self):
        disk = formatted(400, (1, 1, 1, 1, 1, 1, 1))
        log = open_log(disk)
        for time in range(399):
            self.assertEqual(log.free_blocks(), 399 - time)
            self.assertEqual(log.append(("edit", time, ("pages", ("ab"[time % 2],)))), time + 2)
        again = open_log(disk)
        self.assertEqual(len(again.records()), 400)
        self.assertEqual(again.records(), log.records())
        self.assertEqual(again.free_blocks(), 0)

    def test_the_list_of_records_is_new(self):
        log = open_log(formatted())
        log.records().clear()
        log.records().append("x")
        self.assertEqual(log.records(), [("options", OPTIONS)])


class Room(unittest.TestCase):
    ONE = ("edit", 3, ("pages", ("a",)))
    TWO = ("version", 9999999, 9999999, 9999999)
    FOUR = ("edit", 9999999, ("set", "abcdef", "x" * 60))

    def full_but(self, free):
        """A log with so many free blocks, and its disk."""
        disk = formatted(10)
        log = open_log(disk)
        for time in range(8 - free):
            log.append(("edit", time, ("pages", ("xy"[time % 2],))))
        self.assertEqual(log.free_blocks(), free)
        log.sync()
        return log, disk

    def test_free_blocks(self):
        for record, blocks in ((self.ONE, 1), (self.TWO, 2), (self.FOUR, 4)):
            for free in range(9):
                log, disk = self.full_but(free)
                self.assertIs(log.room(record), free >= blocks)
                if free >= blocks:
                    self.assertEqual(log.append(record), 10 - free)
                    self.assertEqual(log.free_blocks(), free - blocks)
                else:
                    self.assert_full(log, disk, record)

    def assert_full(self, log, disk, record):
        before = (log.records(), log.free_blocks(), dump(disk))
        disk.schedule_cut(0, [])
        self.assertRaises(LogFull, log.append, record)
        self.assertEqual((log.records(), log.free_blocks(), dump(disk)), before)
        self.assertEqual((disk.pending_count(), disk.cut_count()), (0, 0))

    def test_a_smaller_record_fits_behind_one_that_does_not(self):
        log, disk = self.full_but(3)
        self.assertRaises(LogFull, log.append, self.FOUR)
        self.assertEqual(log.append(self.TWO), 7)
        self.assertEqual(log.append(self.ONE), 8)
        self.assertFalse(log.room(self.ONE))

    def test_room_changes_nothing(self):
        log, disk = self.full_but(4)
        before = dump(disk)
        self.assertTrue(log.room(self.FOUR))
        self.assertEqual((log.free_blocks(), dump(disk), disk.pending_count()), (4, before, 0))

    def test_room_after_a_cut_tells_of_the_blocks_alone(self):
        log, disk = self.full_but(3)
        disk.cut_power([])
        self.assertIs(log.room(self.TWO), True)
        self.assertIs(log.room(self.FOUR), False)


class AfterACut(unittest.TestCase):
    def test_not_open(self):
        disk = formatted()
        log = open_log(disk)
        log.append(("edit", 3, ("pages", ("a",))))
        disk.cut_power([])
        before = (log.records(), log.free_blocks(), dump(disk))
        for _ in range(2):
            self.assertRaises(NotOpen, log.append, ("edit", 3, ("pages", ("a",))))
            self.assertRaises(NotOpen, log.sync)
        self.assertEqual((log.records(), log.free_blocks(), dump(disk)), before)
        self.assertEqual(disk.pending_count(), 0)

    def test_not_open_comes_before_the_other_errors(self):
        disk = formatted(8)
        log = open_log(disk)
        for time in range(4):
            log.append(("edit", time, ("pages", ("xy"[time % 2],))))
        disk.cut_power([])
        disk.schedule_cut(0, [])
        self.assertRaises(NotOpen, log.append, Room.FOUR)
        self.assertRaises(NotOpen, log.append, Room.ONE)
        self.assertRaises(NotOpen, log.sync)
        self.assertEqual(disk.cut_count(), 1)

    def test_a_log_that_is_opened_afterwards_is_open(self):
        disk = formatted()
        old = open_log(disk)
        disk.cut_power([])
        log = open_log(disk)
        self.assertEqual(log.append(("edit", 3, ("pages", ("a",)))), 2)
        self.assertIsNone(log.sync())
        self.assertRaises(NotOpen, old.sync)

    def test_a_cut_in_append_changes_nothing_in_the_log(self):
        for many in range(4):
            disk = formatted()
            log = open_log(disk)
            log.append(Room.ONE)
            disk.schedule_cut(many, [32] * 9)
            self.assertRaises(PowerCut, log.append, Room.FOUR)
            self.assertEqual(log.records(), [("options", OPTIONS), Room.ONE])
            self.assertEqual(log.free_blocks(), 37)
            self.assertRaises(NotOpen, log.append, Room.ONE)
            self.assertEqual(open_log(disk).records(), [("options", OPTIONS), Room.ONE])


if __name__ == "__main__":
    unittest.main()
