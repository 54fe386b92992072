"""Points 22 and 26: what holds of every version, of the latency and of a publisher at rest, over long rows of edits."""

import random
import unittest

from models import Model, some_text
from pagesatonce.options import longest_latency
from pagesatonce.publisher import Publisher
from publishers import edited, finish, pages, put, seen

NAMES = ["a", "b", "c", "d", "e", "f", "g", "h"]


def some_options(dice):
    return (
        dice.randint(1, 3),
        dice.randint(1, 4),
        dice.randint(1, 4),
        dice.randint(1, 6),
        dice.randint(1, 9),
        dice.randint(1, 30),
        dice.choice([1, 5, 20, 60, 300]),
    )


def some_edit(dice, names):
    luck = dice.random()
    if luck < 0.15:
        return ("pages", tuple(dice.sample(names, dice.randint(0, min(6, len(names))))))
    name = dice.choice(names)
    if luck < 0.25:
        return ("remove", name)
    if luck < 0.6:
        # A few texts that come again, and names to which indirect inclusions lead.
        return put(name, dice.choice(["x", "<d>", "!", "<@c>", "[a]", *names]))
    return put(name, some_text(dice, names))


def some_ticks(dice, options):
    return dice.choice([0, 1, dice.randint(0, 10), dice.randint(0, options[5] + 2), dice.randint(0, 4 * options[5])])


class Watch:
    """A publisher that is watched while it is edited and time passes."""

    def __init__(self, case, options):
        self.case = case
        self.options = options
        self.latency = longest_latency(options)
        self.publisher = Publisher(options)
        # What the sources and pages were after each number of edits, and when these were made.
        self.history = [({}, ())]
        self.times = []
        self.number_of = {}
        self.before = self.publisher.version()
        self.published = 0

    def edit(self, edit):
        sources, names = dict(self.history[-1][0]), self.history[-1][1]
        if edit[0] == "set":
            sources[edit[1]] = edit[2]
        elif edit[0] == "remove":
            sources.pop(edit[1], None)
        else:
            names = edit[1]
        is_edit = (sources, names) != self.history[-1]
        self.case.assertIs(self.publisher.edit(edit), is_edit)
        if is_edit:
            self.history.append((sources, names))
            self.times.append(self.publisher.clock())
        self.check()

    def advance(self, ticks):
        last = self.publisher.clock() + ticks
        while self.publisher.turn(last):
            self.check()
        self.publisher.advance(last - self.publisher.clock())
        self.check()

    def check(self):
        publisher, case = self.publisher, self.case
        case.assertEqual(publisher.count(), len(self.times))
        case.assertEqual(publisher.sources(), tuple(sorted(self.history[-1][0].items())))
        case.assertEqual(publisher.pages(), self.history[-1][1])
        self.check_version()
        self.check_latency()
        self.check_state()
        self.check_jobs()

    def check_version(self):
        """A version is whole, and numbers, counts and times never go back."""
        version, case = self.publisher.version(), self.case
        many = self.publisher.published() - self.published
        case.assertIn(many, (0, 1, 2))
        if many == 0:
            case.assertEqual(version, self.before)
            return
        sources, names = self.history[version[1]]
        case.assertEqual(version[3:], Model(sources, self.options[2]).publish(names))
        case.assertGreaterEqual(version[1], self.before[1])
        case.assertGreaterEqual(version[2], self.before[2])
        case.assertLessEqual(version[2], self.publisher.clock())
        if many == 1:
            case.assertEqual(version[0] - self.before[0], 1 if version[3:] != self.before[3:] else 0)
        else:
            case.assertIn(version[0] - self.before[0], (0, 1, 2))
        shown = {name for name, _ in version[3]}
        for name, characters in version[3]:
            case.assertLessEqual(set(Model(sources, self.options[2]).result(name)[2]), shown)
        self.before = version
        self.published += many

    def check_latency(self):
        count = self.publisher.version()[1]
        if count < len(self.times):
            self.case.assertLessEqual(self.publisher.clock() - self.times[count], self.latency)

    def check_state(self):
        publisher, case = self.publisher, self.case
        state = publisher.state()
        if state == "idle":
            case.assertIsNone(publisher.next_due())
            case.assertIsNone(publisher.dirty_since())
            case.assertEqual(publisher.jobs(), [])
            case.assertEqual(publisher.version()[1], publisher.count())
        else:
            case.assertIsNotNone(publisher.next_due())
            case.assertGreaterEqual(publisher.next_due(), publisher.clock())
            if state != "frozen":
                case.assertIsNotNone(publisher.dirty_since())

    def check_jobs(self):
        """Only so many run, each job is of a required name, and none waits while one more may run."""
        publisher, case = self.publisher, self.case
        jobs = publisher.jobs()
        names = [job[0] for job in jobs]
        case.assertEqual(names, sorted(names))
        case.assertLessEqual(set(names), set(publisher.required()))
        running = [job for job in jobs if job[1] == "running"]
        case.assertLessEqual(len(running), self.options[0])
        for _, state, attempt, due in jobs:
            case.assertIn(state, ("running", "backing off", "queued"))
            case.assertTrue(1 <= attempt <= self.options[2])
            case.assertEqual(due is None, state == "queued")
            if state == "queued" and publisher.state() != "pausing":
                case.assertEqual(len(running), self.options[0])


class Rows(unittest.TestCase):
    def test_rows_of_edits(self):
        dice = random.Random(26)
        states = {}
        for _ in range(60):
            watch = Watch(self, some_options(dice))
            for _ in range(60):
                watch.edit(some_edit(dice, NAMES))
                watch.advance(some_ticks(dice, watch.options))
                states[watch.publisher.state()] = True
            while watch.publisher.next_due() is not None:
                watch.advance(watch.publisher.next_due() - watch.publisher.clock())
            self.assertEqual(watch.publisher.state(), "idle")
        self.assertEqual(sorted(states), ["frozen", "idle", "pausing", "rendering"])

    def test_edits_that_never_stop(self):
        dice = random.Random(27)
        for number in range(12):
            # The pause never ends before the next edit: only the wait leads to versions.
            options = (dice.randint(1, 3), dice.randint(1, 3), 2, 1, 1, 50, dice.choice([1, 20, 100, 400]))
            watch = Watch(self, options)
            for _ in range(150):
                watch.edit(some_edit(dice, NAMES))
                watch.advance(dice.randint(1, 12))
            self.assertGreater(watch.publisher.published(), 1)

    def test_all_sources_one_after_the_other_within_the_latency(self):
        names = list("abcdefghijkl")
        for wait in (1, 2000):
            options = (1, 3, 4, 2, 5, 1, wait)
            sources = [put(name, "!!!!" + f"<@{after}>" * 14) for name, after in zip(names, names[1:])]
            watch = Watch(self, options)
            for edit in [*sources, put("l", "!!!x"), pages("a")]:
                watch.edit(edit)
            for _ in range(4):
                watch.advance(2000)
                watch.edit(put("l", f"!!!{watch.publisher.clock()}"))
            watch.advance(9000)
            self.assertEqual(watch.publisher.version()[1], 17)

    def test_the_longest_latency_is_needed_almost(self):
        # The frozen texts of before are rendered, and then those of the edit.
        options = (1, 100, 1, 1, 1, 1, 1)
        publisher = edited(options, put("a", "1" + "<b>" * 19), put("b", "x"), pages("a"))
        publisher.advance(1)
        self.assertEqual(publisher.state(), "frozen")
        publisher.edit(put("b", "y"))
        publisher.advance(2 * 2100 - 1)
        self.assertEqual(publisher.version()[1], 3)
        publisher.advance(1)
        self.assertEqual(publisher.version()[1:3], (4, 2101))


class Pieces(unittest.TestCase):
    def test_time_that_passes_at_once_in_pieces_and_turn_by_turn_leads_to_the_same(self):
        dice = random.Random(22)
        for _ in range(40):
            options = some_options(dice)
            script = [(some_edit(dice, NAMES), some_ticks(dice, options)) for _ in range(40)]
            once, pieces, turns = Publisher(options), Publisher(options), Publisher(options)
            for edit, ticks in script:
                for publisher in (once, pieces, turns):
                    publisher.edit(edit)
                last = once.advance(ticks)
                while pieces.clock() < last:
                    pieces.advance(min(dice.randint(0, 3), last - pieces.clock()))
                while turns.turn(last):
                    pass
                turns.advance(last - turns.clock())
                self.assertEqual(seen(once), seen(pieces))
                self.assertEqual(seen(once), seen(turns))


class NothingIsRenderedAgain(unittest.TestCase):
    def test_edits_that_are_taken_back(self):
        dice = random.Random(20)
        for _ in range(30):
            options = (*some_options(dice)[:6], 2000)
            publisher = edited(options, *[put(name, some_text(dice, NAMES)) for name in NAMES], pages(*NAMES[:5]))
            finish(publisher)
            before = (publisher.attempts_made(), publisher.version())
            state = (publisher.sources(), publisher.pages())
            for name, words in state[0]:
                publisher.edit(put(name, "another"))
                publisher.edit(pages(name))
                publisher.edit(put(name, words))
            publisher.edit(pages(*state[1]))
            self.assertEqual((publisher.sources(), publisher.pages()), state)
            finish(publisher)
            self.assertEqual(publisher.attempts_made(), before[0])
            self.assertEqual(publisher.version()[0], before[1][0])
            self.assertEqual(publisher.version()[3:], before[1][3:])
            self.assertEqual(publisher.version()[1], publisher.count())

    def test_what_ends_is_rendered_once(self):
        dice = random.Random(21)
        for _ in range(30):
            # Without failures each attempt makes a rendering that was not there.
            publisher = Publisher((*some_options(dice)[:6], 2000))
            for _ in range(12):
                name = dice.choice(NAMES)
                publisher.edit(put(name, some_text(dice, NAMES).replace("!", "-")))
                publisher.edit(pages(*dice.sample(NAMES, 3)))
                before = {name: publisher.renderings(name) for name in NAMES}
                attempts = publisher.attempts_made()
                finish(publisher)
                made = 0
                for name in NAMES:
                    new = [one for one in publisher.renderings(name) if one not in before[name]]
                    made += len(new)
                self.assertEqual(publisher.attempts_made() - attempts, made)


if __name__ == "__main__":
    unittest.main()
