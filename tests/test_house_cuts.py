"""Point 35: what is opened after a cut of the power at any write and flush."""

import random
import unittest

from houses import after, formatted, seen
from models import Model
from pagesatonce.errors import NotOpen, PowerCut
from pagesatonce.house import House
from publishers import pages, put
from stores import is_cut, steps_of
from test_log_cuts import some_torn
from test_publisher_rows import NAMES, some_edit, some_options, some_ticks

# Edits, lapses of time and syncs (None), among them ones behind which a version is appended.
SCRIPT = [
    put("a", "see [b] and <c>, <@d>!"), pages("a", "b"), None, 3, put("c", "C"), 12, put("d", "c"), 200,
    pages("a"), put("b", "B"), 7, ("remove", "c"), 400, None, put("a", "x" * 60), 500, pages(), put("e", "!"), None,
]


class Watched:
    """A house, what was done with it, and what it has to keep."""

    def __init__(self, case, house, options):
        self.case = case
        self.house = house
        self.options = options
        # All edits that were made, the number of those that were synced, and the version that was told last.
        self.made = house.history()
        self.synced = len(self.made)
        self.told = house.version()
        self.trying = None

    def run(self, steps):
        for step in steps:
            self.step(step)

    def step(self, step):
        self.trying = step
        if step is None:
            self.case.assertEqual(self.house.sync(), len(self.made))
            self.synced = len(self.made)
        elif isinstance(step, int):
            # Turn by turn, so that each version is seen that it tells.
            last = self.house.clock() + step
            while self.house.clock() < last:
                due = self.house.next_due()
                self.house.advance(min(due if due is not None else last, last) - self.house.clock())
                self.look()
        elif self.house.edit(step):
            self.made.append(step)
        self.trying = None

    def look(self):
        version = self.house.version()
        if version != self.told:
            self.case.assertGreaterEqual(version[:3], self.told[:3])
            # The edits of before it are synced, too.
            self.synced = len(self.made)
            self.told = version

    def check_closed(self):
        house, case = self.house, self.case
        # Of two versions in one lapse of time the first one may have been told.
        self.look()
        case.assertEqual(house.history(), self.made)
        before = seen(house)
        case.assertRaises(NotOpen, house.edit, pages("zz"))
        case.assertRaises(NotOpen, house.advance, 1)
        case.assertRaises(NotOpen, house.sync)
        case.assertEqual(seen(house), before)

    def check_opened(self, house):
        """What is opened after the cut."""
        case = self.case
        tried = self.made + ([self.trying] if isinstance(self.trying, tuple) else [])
        history, version = house.history(), house.version()
        case.assertEqual(history, tried[:len(history)])
        case.assertGreaterEqual(len(history), self.synced)
        case.assertEqual(house.count(), len(history))
        for new, old in zip(version[:3], self.told[:3]):
            case.assertGreaterEqual(new, old)
        if version[:3] == self.told[:3]:
            case.assertEqual(version, self.told)
        else:
            # Only a lapse of time appends a version.
            case.assertIsInstance(self.trying, int)
        if version[0] == self.told[0]:
            case.assertEqual(version[3:], self.told[3:])
        sources, names = after(history[:version[1]])
        if version[:3] != (0, 0, 0):
            case.assertEqual(version[3:], Model(sources, self.options[2]).publish(names))
        case.assertEqual(house.state(), "pausing" if version[1] < len(history) else "idle")
        sources, names = after(history)
        case.assertEqual((dict(house.sources()), house.pages()), (sources, names))


def opened(disk, dice):
    """A house that is opened while the power may be cut, several times."""
    while True:
        if dice.random() < 0.5:
            disk.schedule_cut(dice.randrange(disk.size() + 2), some_torn(dice))
        try:
            house = House(disk)
        except PowerCut:
            continue
        # A cut that is still to come is put off.
        disk.schedule_cut(100000, [])
        return house


class Cuts(unittest.TestCase):
    def test_at_every_write_and_flush_of_a_script(self):
        dice = random.Random(35)
        options = (2, 10, 3, 5, 15, 20, 100)

        def made(disk):
            return Watched(self, House(disk), options)

        opening = steps_of(lambda: formatted(60, options), House)
        steps = steps_of(lambda: formatted(60, options), lambda disk: made(disk).run(SCRIPT)) - opening
        self.assertGreater(steps, 20)
        found = {}
        for many in range(steps):
            for _ in range(15):
                disk = formatted(60, options)
                watched = made(disk)
                disk.schedule_cut(many, some_torn(dice))
                self.assertTrue(is_cut(watched.run, SCRIPT))
                watched.check_closed()
                house = opened(disk, dice)
                watched.check_opened(house)
                found["lost", len(house.history()) < len(watched.made)] = True
                found["kept", len(house.history()) > watched.synced] = True
                found["later", house.version() != watched.told] = True
                # It goes on, and ends with a version of all edits.
                again = Watched(self, house, options)
                again.run([put("z", str(many)), None, 600])
                self.assertEqual(house.version()[1], house.count())
                disk.cut_power([])
                again.check_opened(House(disk))
        self.assertEqual(len(found), 6)

    def test_long_rows_of_cuts(self):
        dice = random.Random(36)
        for _ in range(30):
            options = some_options(dice)
            disk = formatted(400, options)
            cuts = 0
            house = House(disk)
            while cuts < 12 and house.free_blocks() > 80:
                watched = Watched(self, house, options)
                disk.schedule_cut(dice.randrange(30), some_torn(dice))
                if is_cut(watched.run, some_steps(dice, options)):
                    cuts += 1
                elif dice.random() < 0.5:
                    # One that no call notices.
                    disk.cut_power(some_torn(dice))
                else:
                    # None at all: a house that is opened while another one is open.
                    disk.schedule_cut(100000, [])
                house = opened(disk, dice)
                watched.check_opened(house)
            self.assertGreater(cuts, 3)


def some_steps(dice, options):
    steps = []
    for _ in range(12):
        steps.append(some_edit(dice, NAMES))
        steps.append(some_ticks(dice, options))
        if dice.random() < 0.2:
            steps.append(None)
    return steps


if __name__ == "__main__":
    unittest.main()
