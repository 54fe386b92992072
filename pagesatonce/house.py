"""The house: a publisher whose edits and versions are kept on a disk."""

from pagesatonce.closing import publish
from pagesatonce.edits import all_edited, edited
from pagesatonce.errors import LogFull, NotOpen
from pagesatonce.log import blocks_needed, open_log, read_log
from pagesatonce.publisher import Publisher, time_after

# The most blocks that the record of a version needs.
_VERSION_BLOCKS = 2
# How often at most something else is published until the next edit.
_VERSIONS_MOST = 2


class House:
    """The publisher of the log of a disk; its edits are appended, and its versions are synced before it tells them."""

    def __init__(self, disk):
        # Before anything is cleared, since a house that is refused leaves the disk as it is.
        records, end = read_log(disk)
        edits = _edits_of(records)
        number, count, time = _last_version(records)
        if count < len(edits) and disk.size() - end < _VERSION_BLOCKS:
            raise LogFull("there are not enough blocks left for the next version")
        self._log = open_log(disk)
        options = records[0][1]
        sources, pages, _ = all_edited({}, (), edits[:count])
        parts = publish(sources, options[2], pages)
        # The version that was told last; that of the publisher may not be synced yet.
        self._version = (number, count, time, *parts)
        self._publisher = Publisher(options, _greatest_time(records))
        self._publisher.resume(edits, self._version)

    def edit(self, edit):
        """Makes an edit; whether it is one, since what changes nothing is none."""
        self._check_open()
        sources, pages = dict(self.sources()), self.pages()
        if edited(sources, pages, edit) == (sources, pages):
            return False
        record = ("edit", self.clock(), edit)
        if self.free_blocks() < blocks_needed(record) + _VERSIONS_MOST * _VERSION_BLOCKS:
            raise LogFull("there are not enough blocks left for an edit and the versions behind it")
        self._log.append(record)
        return self._publisher.edit(edit)

    def advance(self, ticks):
        """Lets time pass; the clock."""
        self._check_open()
        last = time_after(self.clock(), ticks)
        while self._turn(last):
            pass
        return self._publisher.advance(last - self.clock())

    def sync(self):
        """Keeps all edits from being lost; how many there are."""
        self._check_open()
        self._log.sync()
        return self.count()

    def version(self):
        """The version that is told."""
        return self._version

    def clock(self):
        """The present time."""
        return self._publisher.clock()

    def count(self):
        """The number of edits."""
        return self._publisher.count()

    def free_blocks(self):
        """The number of blocks that are left on the disk."""
        return self._log.free_blocks()

    def sources(self):
        """The rising tuple of the present sources."""
        return self._publisher.sources()

    def pages(self):
        """The tuple of the presently requested pages."""
        return self._publisher.pages()

    def state(self):
        """What its publisher is doing: frozen, pausing, rendering or idle."""
        return self._publisher.state()

    def next_due(self):
        """The time at which the first timer is due, or None."""
        return self._publisher.next_due()

    def history(self):
        """The list of all edits."""
        return _edits_of(self._log.records())

    def letters(self):
        """The list of the letters that tell its version."""
        number, count, time, pages, behind = self._version
        letters = [("page", number, name, text) for name, text in pages]
        names = tuple([name for name, _ in pages])
        return letters + [("seal", number, count, time, names, behind)]

    def is_open(self):
        """Whether the power has not been cut since it was opened."""
        return self._log.is_open()

    def _check_open(self):
        if not self.is_open():
            raise NotOpen("the power was cut since the house was opened")

    def _turn(self, last):
        """Fires the first timer, if it is due by the time last; whether one fired."""
        published = self._publisher.published()
        fired = self._publisher.turn(last)
        if self._publisher.published() > published:
            version = self._publisher.version()
            self._log.append(("version", version[0], version[1], version[2]))
            self._log.sync()
            self._version = version
        return fired


def _edits_of(records):
    return [record[2] for record in records if record[0] == "edit"]


def _last_version(records):
    """Number, count and time of the last version record, 0 without one."""
    for record in reversed(records):
        if record[0] == "version":
            return record[1:]
    return (0, 0, 0)


def _greatest_time(records):
    times = [record[1] for record in records if record[0] == "edit"]
    # Versions in a log do not go back in time.
    return max(times + [_last_version(records)[2]])
