"""Points 28 and 29: blocks, writes that wait, flushes, and cuts of the power."""

import random
import unittest

from pagesatonce.disks import BLOCK, BLOCKS_MOST, Disk
from pagesatonce.errors import OutOfRange, PowerCut
from stores import ZEROS, dump, stored


def ramp(start):
    """A block of 32 different numbers."""
    return [(start + at) % 256 for at in range(32)]


def written(*writes, size=8):
    """A disk with waiting writes."""
    disk = Disk(size)
    for at, block in writes:
        disk.write(at, block)
    return disk


class Refused(unittest.TestCase):
    def assert_refused(self, name, call, *arguments):
        with self.assertRaises(OutOfRange) as caught:
            call(*arguments)
        self.assertEqual(caught.exception.name, name)


class Sizes(Refused):
    def test_the_bounds(self):
        self.assertEqual((BLOCK, BLOCKS_MOST), (32, 400))

    def test_so_many_blocks(self):
        for blocks in (8, 9, 399, 400):
            disk = Disk(blocks)
            self.assertEqual(disk.size(), blocks)
            self.assertEqual(dump(disk), [ZEROS] * blocks)
            self.assertEqual((disk.pending_count(), disk.cut_count()), (0, 0))

    def test_too_few_or_too_many_blocks(self):
        for blocks in (-1, 0, 7, 401, 100000):
            self.assert_refused("blocks", Disk, blocks)


class Reading(Refused):
    def test_out_of_range(self):
        for size in (8, 400):
            disk = Disk(size)
            for at in (-size, -1, size, size + 1):
                self.assert_refused("at", disk.read, at)

    def test_the_first_and_the_last_block(self):
        for size in (8, 400):
            disk = written((0, ramp(1)), (size - 1, ramp(7)), size=size)
            self.assertEqual((disk.read(0), disk.read(size - 1)), (ramp(1), ramp(7)))
            self.assertEqual(disk.read(1), ZEROS)

    def test_what_waits_is_read(self):
        disk = written((3, ramp(1)), (4, ramp(2)), (3, ramp(3)), (3, ramp(4)))
        self.assertEqual(disk.pending_count(), 4)
        self.assertEqual((disk.read(3), disk.read(4), disk.read(5)), (ramp(4), ramp(2), ZEROS))
        disk.flush()
        self.assertEqual((disk.read(3), disk.read(4), disk.read(5)), (ramp(4), ramp(2), ZEROS))
        disk.write(3, ramp(9))
        self.assertEqual(disk.read(3), ramp(9))

    def test_each_block_that_is_returned_is_new(self):
        disk = written((2, ramp(1)))
        for _ in range(2):
            for at in (2, 3):
                before = list(disk.read(at))
                disk.read(at)[0] = 99
                disk.read(at).append(1)
                self.assertEqual(disk.read(at), before)
            disk.flush()


class Writing(Refused):
    def test_it_returns_none(self):
        disk = Disk(8)
        self.assertIsNone(disk.write(0, ramp(0)))
        self.assertIsNone(disk.flush())

    def test_out_of_range(self):
        disk = Disk(8)
        for at in (-8, -1, 8, 9):
            self.assert_refused("at", disk.write, at, ZEROS)
        self.assertEqual(disk.pending_count(), 0)

    def test_blocks_that_are_none(self):
        disk = written((1, ramp(5)))
        for block in ([], [0] * 31, [0] * 33, [-1] + [0] * 31, [0] * 31 + [256], [0] * 16 + [-1] + [255] * 15):
            self.assert_refused("block", disk.write, 1, block)
        self.assertEqual((disk.pending_count(), disk.read(1)), (1, ramp(5)))

    def test_the_least_and_the_greatest_numbers(self):
        disk = Disk(8)
        for block in ([255] * 32, [0, 255] * 16, ZEROS):
            disk.write(7, block)
            self.assertEqual(disk.read(7), block)

    def test_the_place_is_checked_before_the_block(self):
        self.assert_refused("at", Disk(8).write, 8, [0] * 31)

    def test_the_block_that_is_handed_in_is_not_kept(self):
        disk, block = Disk(8), ramp(1)
        disk.write(2, block)
        self.assertEqual(block, ramp(1))
        block[0] = 200
        self.assertEqual(disk.read(2), ramp(1))
        disk.flush()
        block.clear()
        self.assertEqual(disk.read(2), ramp(1))

    def test_what_is_not_flushed_is_not_stored(self):
        disk = written((0, ramp(1)))
        disk.flush()
        disk.write(0, ramp(2))
        disk.write(1, ramp(3))
        self.assertEqual(stored(disk), [ramp(1)] + [ZEROS] * 7)


class Flushing(unittest.TestCase):
    def test_all_writes_are_performed_in_order(self):
        disk = written((0, ramp(1)), (1, ramp(2)), (0, ramp(3)), (1, ramp(4)), (1, ramp(5)))
        disk.flush()
        self.assertEqual(disk.pending_count(), 0)
        self.assertEqual(stored(disk), [ramp(3), ramp(5)] + [ZEROS] * 6)

    def test_a_flush_of_nothing(self):
        disk = written((0, ramp(1)))
        disk.flush()
        disk.flush()
        self.assertEqual(stored(disk), [ramp(1)] + [ZEROS] * 7)


class Cuts(Refused):
    def test_it_returns_none_and_is_counted(self):
        disk = written((0, ramp(1)))
        self.assertIsNone(disk.cut_power([]))
        self.assertEqual((disk.cut_count(), disk.pending_count()), (1, 0))
        self.assertIsNone(disk.cut_power([1, 2]))
        self.assertEqual(disk.cut_count(), 2)

    def test_fewer_numbers_than_writes(self):
        disk = written((0, ramp(1)), (1, ramp(2)), (2, ramp(3)))
        disk.cut_power([5, 32])
        self.assertEqual(disk.read(0), ramp(1)[:5] + [0] * 27)
        self.assertEqual((disk.read(1), disk.read(2)), (ramp(2), ZEROS))

    def test_as_many_numbers_as_writes(self):
        disk = written((0, ramp(1)), (1, ramp(2)), (2, ramp(3)))
        disk.cut_power([0, 1, 31])
        self.assertEqual(dump(disk)[:3], [ZEROS, [2] + [0] * 31, ramp(3)[:31] + [0]])

    def test_more_numbers_than_writes(self):
        disk = written((6, ramp(1)))
        disk.cut_power([32, 32, 32])
        self.assertEqual(dump(disk), [ZEROS] * 6 + [ramp(1), ZEROS])
        disk.cut_power([32])
        self.assertEqual(dump(disk), [ZEROS] * 6 + [ramp(1), ZEROS])

    def test_several_writes_to_one_block(self):
        disk = written((4, ramp(100)))
        disk.flush()
        for block in (ramp(0), ramp(50), ramp(150)):
            disk.write(4, block)
        disk.cut_power([20, 10, 3])
        self.assertEqual(disk.read(4), ramp(150)[:3] + ramp(50)[3:10] + ramp(0)[10:20] + ramp(100)[20:])

    def test_an_earlier_write_that_is_cut_less(self):
        disk = written((4, ramp(0)), (4, ramp(50)), (4, ramp(150)))
        disk.cut_power([3, 0, 2])
        self.assertEqual(disk.read(4), ramp(150)[:2] + [2] + [0] * 29)

    def test_what_was_flushed_stays(self):
        disk = written((0, ramp(1)), (7, ramp(2)))
        disk.flush()
        disk.write(0, ZEROS)
        disk.cut_power([0])
        self.assertEqual(dump(disk), [ramp(1)] + [ZEROS] * 6 + [ramp(2)])

    def test_afterwards_writes_wait_again(self):
        disk = written((0, ramp(1)))
        disk.cut_power([])
        disk.write(1, ramp(2))
        self.assertEqual(disk.pending_count(), 1)
        disk.flush()
        self.assertEqual(stored(disk)[:2], [ZEROS, ramp(2)])

    def test_items_at_and_beyond_their_bounds(self):
        disk = written((0, ramp(1)))
        for torn in ([-1], [33], [0, 33], [32, 0, -1], [0] * 50 + [33]):
            self.assert_refused("torn", disk.cut_power, torn)
        self.assertEqual((disk.cut_count(), disk.pending_count(), disk.read(0)), (0, 1, ramp(1)))
        disk.cut_power([32, 0])
        self.assertEqual(disk.read(0), ramp(1))

    def test_the_list_that_is_handed_in_stays_as_it_is(self):
        torn = [3, 4, 5]
        written((0, ramp(1))).cut_power(torn)
        self.assertEqual(torn, [3, 4, 5])


class Scheduled(Refused):
    def test_it_returns_none_and_cuts_nothing_yet(self):
        disk = written((0, ramp(1)))
        self.assertIsNone(disk.schedule_cut(0, []))
        self.assertEqual((disk.cut_count(), disk.pending_count(), disk.read(0)), (0, 1, ramp(1)))

    def test_the_write_that_is_cut_does_nothing_itself(self):
        disk = written((0, ramp(1)))
        disk.schedule_cut(0, [4, 32])
        with self.assertRaises(PowerCut):
            disk.write(1, ramp(2))
        self.assertEqual((disk.cut_count(), disk.pending_count()), (1, 0))
        self.assertEqual(dump(disk)[:2], [ramp(1)[:4] + [0] * 28, ZEROS])

    def test_the_flush_that_is_cut_does_nothing_itself(self):
        disk = written((0, ramp(1)), (1, ramp(2)))
        disk.schedule_cut(0, [0, 32])
        with self.assertRaises(PowerCut):
            disk.flush()
        self.assertEqual((disk.cut_count(), disk.pending_count()), (1, 0))
        self.assertEqual(dump(disk)[:2], [ZEROS, ramp(2)])

    def test_behind_writes_and_flushes(self):
        calls = ["write", "flush", "flush", "write", "write", "flush", "write"]
        for many in range(len(calls)):
            disk = Disk(8)
            disk.schedule_cut(many, [32])
            done = 0
            with self.assertRaises(PowerCut):
                for at, call in enumerate(calls):
                    if call == "write":
                        disk.write(at, ramp(at))
                    else:
                        disk.flush()
                    done += 1
            self.assertEqual(done, many)
            self.assertEqual(disk.cut_count(), 1)

    def test_what_does_not_count(self):
        disk = Disk(8)
        disk.schedule_cut(1, [])
        self.assert_refused("at", disk.write, 8, ZEROS)
        self.assert_refused("block", disk.write, 0, [256] * 32)
        disk.read(0)
        disk.size(), disk.pending_count(), disk.cut_count()
        disk.write(0, ZEROS)
        # Even the one that would be cut is checked first, and then it is not cut.
        self.assert_refused("at", disk.write, -1, ZEROS)
        self.assert_refused("block", disk.write, 0, [0] * 33)
        self.assertEqual(disk.cut_count(), 0)
        self.assertRaises(PowerCut, disk.write, 0, ZEROS)

    def test_afterwards_nothing_is_scheduled(self):
        disk = Disk(8)
        disk.schedule_cut(0, [])
        self.assertRaises(PowerCut, disk.flush)
        for _ in range(5):
            disk.write(0, ramp(1))
            disk.flush()
        self.assertEqual((disk.cut_count(), disk.read(0)), (1, ramp(1)))

    def test_scheduled_anew(self):
        disk = Disk(8)
        disk.schedule_cut(0, [1])
        disk.schedule_cut(2, [2])
        disk.write(0, ramp(1))
        disk.write(1, ramp(1))
        with self.assertRaises(PowerCut):
            disk.write(2, ramp(1))
        self.assertEqual(dump(disk)[:3], [[1, 2] + [0] * 30, ZEROS, ZEROS])
        disk.write(3, ramp(1))
        self.assertEqual(disk.cut_count(), 1)

    def test_scheduled_anew_amid_counting(self):
        disk = Disk(8)
        disk.schedule_cut(2, [])
        disk.flush()
        disk.schedule_cut(2, [])
        disk.flush()
        disk.flush()
        self.assertRaises(PowerCut, disk.flush)

    def test_a_cut_ends_the_schedule(self):
        disk = Disk(8)
        disk.schedule_cut(0, [])
        disk.cut_power([])
        disk.write(0, ZEROS)
        disk.flush()
        self.assertEqual(disk.cut_count(), 1)

    def test_a_cut_that_is_refused_does_not_end_the_schedule(self):
        disk = Disk(8)
        disk.schedule_cut(0, [])
        self.assert_refused("torn", disk.cut_power, [33])
        self.assertRaises(PowerCut, disk.flush)

    def test_the_bounds_of_many(self):
        disk = Disk(8)
        for many in (-1, 100001):
            self.assert_refused("many", disk.schedule_cut, many, [])
        disk.flush()
        disk.schedule_cut(100000, [])
        for _ in range(100000):
            disk.flush()
        self.assertRaises(PowerCut, disk.flush)

    def test_the_bounds_of_torn(self):
        disk = Disk(8)
        for torn in ([-1], [33], [32, 0, 33]):
            self.assert_refused("torn", disk.schedule_cut, 0, torn)
        disk.flush()
        disk.schedule_cut(0, [0, 32])
        self.assertRaises(PowerCut, disk.flush)

    def test_many_is_checked_before_torn(self):
        for many in (-1, 100001):
            self.assert_refused("many", Disk(8).schedule_cut, many, [33])

    def test_a_schedule_that_is_refused_leaves_the_one_before(self):
        for many, torn in ((-1, []), (0, [-1]), (100001, []), (0, [33])):
            disk = Disk(8)
            disk.schedule_cut(1, [7])
            self.assertRaises(OutOfRange, disk.schedule_cut, many, torn)
            disk.write(0, ramp(1))
            self.assertRaises(PowerCut, disk.flush)
            self.assertEqual(disk.read(0), ramp(1)[:7] + [0] * 25)

    def test_the_list_that_is_handed_in_is_not_kept(self):
        disk, torn = written((0, ramp(1)), (1, ramp(2))), [4, 5]
        disk.schedule_cut(0, torn)
        torn[0] = 32
        torn.pop()
        self.assertRaises(PowerCut, disk.flush)
        self.assertEqual(dump(disk)[:2], [ramp(1)[:4] + [0] * 28, ramp(2)[:5] + [0] * 27])


class Rows(unittest.TestCase):
    """Long rows of calls, compared with what is stored and what waits as the points tell it."""

    def test_rows(self):
        dice = random.Random(28)
        for _ in range(200):
            disk = Disk(8)
            kept, waiting, cuts = [ZEROS] * 8, [], 0
            ahead = None
            for _ in range(40):
                torn = [dice.choice([0, 32, dice.randint(0, 32)]) for _ in range(dice.randint(0, 4))]
                call = dice.choice(["write", "write", "write", "write", "flush", "cut", "schedule"])
                if call == "schedule":
                    ahead = (dice.randint(0, 5), torn)
                    disk.schedule_cut(*ahead)
                    continue
                at, block = dice.randrange(4), ramp(dice.randrange(256))
                strikes = call != "cut" and ahead is not None and ahead[0] == 0
                if strikes:
                    call, torn = "cut", ahead[1]
                    with self.assertRaises(PowerCut):
                        dice.choice([disk.flush, lambda: disk.write(at, block)])()
                elif call == "write":
                    disk.write(at, block)
                    waiting.append((at, block))
                elif call == "flush":
                    disk.flush()
                else:
                    disk.cut_power(torn)
                if call == "cut":
                    ahead, cuts = None, cuts + 1
                elif ahead is not None:
                    ahead = (ahead[0] - 1, ahead[1])
                if call != "write":
                    lengths = [32] * len(waiting) if call == "flush" else torn + [0] * len(waiting)
                    for (place, new), length in zip(waiting, lengths):
                        kept[place] = new[:length] + kept[place][length:]
                    waiting = []
                seen = {**dict(enumerate(kept)), **dict(waiting)}
                self.assertEqual(dump(disk), [seen[place] for place in range(8)])
                self.assertEqual((disk.pending_count(), disk.cut_count()), (len(waiting), cuts))


if __name__ == "__main__":
    unittest.main()
