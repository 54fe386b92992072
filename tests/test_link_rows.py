"""Points 35 and 39: what the mirrors show over long rows of edits, cuts of the power and lost letters."""

import random
import unittest

from houses import after
from models import Model
from pagesatonce.errors import LogFull, NotOpen, PowerCut
from pagesatonce.link import Link
from test_log_cuts import some_torn
from test_publisher_rows import NAMES, some_edit, some_options, some_ticks

EMPTY = (0, 0, 0, (), ())


class Watched:
    """A link, and all that its mirrors ever showed."""

    def __init__(self, case, dice):
        self.case = case
        self.dice = dice
        self.options = some_options(dice)
        self.mirrors = dice.randint(1, 3)
        self.link = Link(self.options, self.mirrors, dice.choice([100, 400]))
        self.shown = [EMPTY] * self.mirrors
        # Every version that a mirror showed, and every one that the house told.
        self.every = []
        self.told = [EMPTY]

    def step(self):
        dice, link = self.dice, self.link
        luck = dice.random()
        if link.letters() and luck < 0.45:
            at = dice.randrange(len(link.letters()))
            if luck < 0.3:
                self.deliver(at)
            elif luck < 0.36:
                link.duplicate(at)
            else:
                link.drop(at)
        elif luck < 0.5:
            link.cut_power(some_torn(dice))
        elif luck < 0.55:
            link.schedule_cut(dice.randrange(12), some_torn(dice))
        else:
            self.work()

    def work(self):
        """Something that needs the house, which may not be open."""
        dice, link = self.dice, self.link
        try:
            luck = dice.random()
            if luck < 0.45:
                link.edit(some_edit(dice, NAMES))
            elif luck < 0.8:
                link.advance(some_ticks(dice, self.options))
            elif luck < 0.9:
                link.post()
            else:
                link.sync()
            self.look()
        except (PowerCut, NotOpen):
            self.case.assertIs(link.is_open(), False)
            self.reopen()
        except LogFull:
            pass

    def reopen(self):
        try:
            self.link.reopen()
            self.look()
        except PowerCut:
            self.case.assertIs(self.link.is_open(), False)

    def look(self):
        version = self.link.version()
        for new, old in zip(version[:3], self.told[-1][:3]):
            self.case.assertGreaterEqual(new, old)
        if version != self.told[-1]:
            self.told.append(version)

    def deliver(self, at):
        mirror = self.link.letters()[at][0]
        changed = self.link.deliver(at)
        for other in range(self.mirrors):
            version = self.link.shown(other)
            if other != mirror or not changed:
                self.case.assertEqual(version, self.shown[other])
                continue
            self.case.assertNotEqual(version, self.shown[other])
            # What is shown never goes back.
            for new, old in zip(version[:3], self.shown[other][:3]):
                self.case.assertGreaterEqual(new, old)
            self.shown[other] = version
            self.every.append(version)

    def end(self):
        """Nothing is cut or lost any more."""
        link, case = self.link, self.case
        link.cut_power([])
        link.reopen()
        while link.next_due() is not None:
            link.advance(link.next_due() - link.clock())
            self.look()
        link.post()
        while link.letters():
            self.deliver(self.dice.randrange(len(link.letters())))
        version = link.version()
        case.assertEqual(version[1], link.count())
        for mirror in range(self.mirrors):
            case.assertEqual(link.shown(mirror), version)
            for name in NAMES:
                case.assertEqual(link.page(mirror, name), dict(version[3]).get(name))

    def check(self):
        """All that was shown are whole versions of the final history, closed under links."""
        history, case = self.link.history(), self.case
        for version in {repr(one): one for one in self.every + self.told[1:]}.values():
            case.assertLessEqual(version[1], len(history))
            sources, names = after(history[:version[1]])
            model = Model(sources, self.options[2])
            case.assertEqual(version[3:], model.publish(names))
            there = {name for name, _ in version[3]}
            for name, _ in version[3]:
                case.assertLessEqual(set(model.result(name)[2]), there)


class Rows(unittest.TestCase):
    def test_rows(self):
        dice = random.Random(39)
        shown = cuts = 0
        for _ in range(60):
            watched = Watched(self, dice)
            for _ in range(250):
                watched.step()
            watched.end()
            watched.check()
            shown += len(watched.every)
            cuts += watched.link._disk.cut_count()
        self.assertGreater(shown, 300)
        self.assertGreater(cuts, 600)

    def test_what_was_posted_last_is_shown_when_it_has_been_delivered(self):
        dice = random.Random(40)
        for _ in range(60):
            watched = Watched(self, dice)
            link = watched.link
            for _ in range(8):
                for _ in range(dice.randint(1, 6)):
                    link.edit(some_edit(dice, NAMES))
                    link.advance(some_ticks(dice, watched.options))
                last = link.post()
                version = link.version()
                # Elder letters may be under way still, and come in between or later.
                while last > 0:
                    at = dice.randrange(len(link.letters()))
                    last -= at >= len(link.letters()) - last
                    watched.deliver(at)
                self.assertEqual([link.shown(mirror) for mirror in range(watched.mirrors)], [version] * watched.mirrors)
                for _ in range(dice.randint(0, 2)):
                    link.post()


if __name__ == "__main__":
    unittest.main()
