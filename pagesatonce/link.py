"""A house and its mirrors, connected by letters that may be lost, doubled and late."""

from pagesatonce.disks import Disk
from pagesatonce.errors import NoLetter, NotOpen, OutOfRange
from pagesatonce.house import House
from pagesatonce.log import format_disk
from pagesatonce.mirrors import Mirror

MIRRORS_MOST = 3


class Link:
    """A house on its disk, its mirrors, and the row of the letters that are under way."""

    def __init__(self, options, mirrors, blocks):
        if not 1 <= mirrors <= MIRRORS_MOST:
            raise OutOfRange("mirrors")
        self._disk = Disk(blocks)
        format_disk(self._disk, options)
        self._house = House(self._disk)
        self._mirrors = [Mirror() for _ in range(mirrors)]
        # The tuples (mirror, letter), the eldest first.
        self._row = []

    def edit(self, edit):
        """Makes an edit of the house; whether it is one."""
        return self._open_house().edit(edit)

    def advance(self, ticks):
        """Lets time pass in the house; its clock."""
        return self._open_house().advance(ticks)

    def sync(self):
        """Keeps all edits of the house from being lost; how many there are."""
        return self._open_house().sync()

    def version(self):
        """The version that the house tells."""
        return self._open_house().version()

    def clock(self):
        """The present time of the house."""
        return self._open_house().clock()

    def count(self):
        """The number of edits of the house."""
        return self._open_house().count()

    def history(self):
        """The list of all edits of the house."""
        return self._open_house().history()

    def next_due(self):
        """The time at which the first timer of the house is due, or None."""
        return self._open_house().next_due()

    def state(self):
        """What the house is doing: frozen, pausing, rendering or idle."""
        return self._open_house().state()

    def post(self):
        """Puts the letters of the house at the end of the row, for each mirror; how many."""
        letters = self._open_house().letters()
        posted = [(mirror, letter) for mirror in range(len(self._mirrors)) for letter in letters]
        self._row.extend(posted)
        return len(posted)

    def letters(self):
        """The list of the tuples (mirror, letter) that are under way, the eldest first."""
        return list(self._row)

    def drop(self, at):
        """Loses a letter of the row."""
        self._check_letter(at)
        self._row.pop(at)

    def duplicate(self, at):
        """Puts a second one of a letter at the end of the row."""
        self._check_letter(at)
        self._row.append(self._row[at])

    def deliver(self, at):
        """Delivers a letter of the row; whether the version that its mirror shows changed."""
        self._check_letter(at)
        mirror, letter = self._row.pop(at)
        return self._mirrors[mirror].hear(letter)

    def shown(self, mirror):
        """The version that a mirror shows."""
        return self._mirror(mirror).shown()

    def page(self, mirror, name):
        """The text of a page that a mirror shows, or None."""
        return self._mirror(mirror).page(name)

    def is_open(self):
        """Whether the house is open."""
        return self._house.is_open()

    def cut_power(self, torn):
        """Cuts the power of the house's disk."""
        self._disk.cut_power(torn)

    def schedule_cut(self, many, torn):
        """Lets the power of the house's disk be cut instead of the next write or flush after so many others."""
        self._disk.schedule_cut(many, torn)

    def reopen(self):
        """Opens a new house on the disk; its number of edits."""
        # If the power is cut meanwhile, this closes the house of before as well.
        self._house = House(self._disk)
        return self._house.count()

    def _open_house(self):
        if not self.is_open():
            raise NotOpen("the house has to be reopened")
        return self._house

    def _check_letter(self, at):
        if not 0 <= at < len(self._row):
            raise NoLetter("there is no letter at this index")

    def _mirror(self, at):
        if not 0 <= at < len(self._mirrors):
            raise OutOfRange("mirror")
        return self._mirrors[at]
