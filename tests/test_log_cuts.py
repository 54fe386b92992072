"""Point 32 under cuts of the power: what is opened has a beginning of the records, with all that were synced."""

import random
import unittest

from pagesatonce.disks import Disk
from pagesatonce.errors import NotKept, NotOpen, PowerCut
from pagesatonce.log import format_disk, open_log
from stores import ZEROS, dump, is_cut, steps_of, texts_on

OPTIONS = (2, 10, 3, 5, 15, 20, 100)
FIRST = ("options", OPTIONS)

# Records and syncs: None is a sync.
SCRIPT = [
    ("edit", 0, ("set", "a", "a text that needs more than one block")),
    ("edit", 0, ("pages", ("a", "b"))),
    None,
    ("version", 1, 2, 20),
    None,
    ("edit", 30, ("set", "b", "x" * 60)),
    ("edit", 31, ("remove", "a")),
    ("edit", 31, ("set", "c", "y")),
    None,
    None,
    ("version", 9999999, 5, 9999999),
]


def some_torn(dice):
    kind = dice.randrange(4)
    if kind == 0:
        return []
    if kind == 1:
        return [32] * dice.randint(1, 12)
    if kind == 2:
        return [dice.choice([0, 32]) for _ in range(12)]
    return [dice.choice([0, 1, 6, 30, 31, 32, dice.randint(0, 32)]) for _ in range(12)]


class Play:
    """The script, played on a disk until the power is cut."""

    def __init__(self, disk):
        self.log = open_log(disk)
        self.records = self.log.records()
        self.synced = list(self.records)
        self.trying = None

    def run(self):
        for step in SCRIPT:
            self.trying = step
            if step is None:
                self.log.sync()
                self.synced = list(self.records)
            else:
                self.log.append(step)
                self.records.append(step)
            self.trying = None


class Cuts(unittest.TestCase):
    def make(self):
        disk = Disk(40)
        format_disk(disk, OPTIONS)
        return disk

    def assert_closed(self, log):
        self.assertRaises(NotOpen, log.append, SCRIPT[0])
        self.assertRaises(NotOpen, log.sync)

    def assert_beginning(self, records, play):
        """These are a beginning of the records that were appended, with all that were synced."""
        tried = play.records + ([play.trying] if play.trying is not None else [])
        self.assertEqual(records, tried[:len(records)])
        self.assertGreaterEqual(len(records), len(play.synced))

    def opened(self, disk, dice):
        """A log that is opened while the power may be cut, several times."""
        while True:
            if dice.random() < 0.5:
                disk.schedule_cut(dice.randrange(disk.size() + 2), some_torn(dice))
            try:
                log = open_log(disk)
            except PowerCut:
                continue
            # A cut that is still to come is put off.
            disk.schedule_cut(100000, [])
            return log

    def test_at_every_write_and_flush(self):
        dice = random.Random(32)
        opening = steps_of(self.make, open_log)
        steps = steps_of(self.make, lambda disk: Play(disk).run()) - opening
        self.assertEqual((opening, steps), (39, 17))
        lost = kept = 0
        for many in range(steps):
            for _ in range(30):
                disk = self.make()
                play = Play(disk)
                disk.schedule_cut(many, some_torn(dice))
                self.assertTrue(is_cut(play.run))
                self.assert_closed(play.log)
                log = self.opened(disk, dice)
                self.assert_beginning(log.records(), play)
                end = len(texts_of(log))
                self.assertEqual(dump(disk), texts_of(log) + [ZEROS] * (40 - end))
                self.assertEqual((disk.pending_count(), log.free_blocks()), (0, 40 - end))
                lost += len(log.records()) < len(play.records)
                kept += len(log.records()) > len(play.synced)
                # What is appended then follows what was opened.
                again = ("edit", 40, ("set", "z", str(many)))
                log.append(again)
                log.sync()
                disk.cut_power([])
                self.assertEqual(open_log(disk).records(), log.records())
                self.assertEqual(log.records()[-1], again)
        # Both happens: records that were not synced are lost, or are kept.
        self.assertGreater(lost, 100)
        self.assertGreater(kept, 30)

    def test_without_any_sync_nothing_has_to_be_kept(self):
        disk = self.make()
        log = open_log(disk)
        log.append(SCRIPT[0])
        log.append(SCRIPT[1])
        disk.cut_power([])
        self.assertEqual(open_log(disk).records(), [FIRST])

    def test_a_torn_block_ends_the_log(self):
        for torn, many in (([32, 32, 32], 3), ([32, 32, 31], 2), ([32, 31, 32], 1), ([0, 32, 32], 1), ([32, 32], 2)):
            disk = self.make()
            log = open_log(disk)
            self.assertEqual(log.append(SCRIPT[0]), 2)
            self.assertEqual(log.append(SCRIPT[1]), 3)
            self.assertEqual(disk.pending_count(), 4)
            disk.cut_power([32] + torn)
            self.assertEqual(len(open_log(disk).records()), many)

    def test_a_cut_in_opening(self):
        dice = random.Random(33)
        before = texts_on("options 2 10 3 5 15 20 100", "edit 0 pages a", "edit 1 pages b")
        for many in range(40 - len(before) + 1):
            for _ in range(8):
                disk = Disk(40)
                for at in range(40):
                    disk.write(at, before[at] if at < len(before) else [dice.choice([0, 80, 7])] * 32)
                disk.flush()
                disk.schedule_cut(many, some_torn(dice))
                self.assertRaises(PowerCut, open_log, disk)
                log = open_log(disk)
                self.assertEqual(len(log.records()), 3)
                self.assertEqual(dump(disk), before + [ZEROS] * (40 - len(before)))

    def test_a_cut_in_formatting(self):
        dice = random.Random(34)
        found = {True: 0, False: 0}
        for many in range(41):
            for _ in range(8):
                disk = Disk(40)
                disk.schedule_cut(many, some_torn(dice))
                self.assertRaises(PowerCut, format_disk, disk, OPTIONS)
                try:
                    self.assertEqual(open_log(disk).records(), [FIRST])
                    found[True] += 1
                except NotKept:
                    found[False] += 1
                format_disk(disk, OPTIONS)
                self.assertEqual(open_log(disk).records(), [FIRST])
        self.assertGreater(min(found.values()), 20)


def texts_of(log):
    """The blocks of the records of a log."""
    texts = []
    for record in log.records():
        words = [record[0]]
        for part in record[1:]:
            words.append(part if isinstance(part, int) else written(part))
        texts.append(" ".join(str(word) for word in words))
    return texts_on(*texts)


def written(part):
    if isinstance(part[0], int):
        return " ".join(map(str, part))
    if part[0] == "set":
        return f'set {part[1]} "{part[2]}"'
    if part[0] == "remove":
        return f"remove {part[1]}"
    return " ".join(["pages", *part[1]])


if __name__ == "__main__":
    unittest.main()
