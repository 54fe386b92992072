"""Which records can follow one another in a log."""

from pagesatonce.edits import edited
from pagesatonce.errors import TooManySources


class Fitting:
    """What the records of a log lead to so far; it takes the next one if it fits."""

    def __init__(self):
        self._has_options = False
        self._sources = {}
        self._pages = ()
        self._edits = 0
        self._edit_time = 0
        # Number, count and time of the last version record.
        self._version = (0, 0, 0)

    def take(self, record):
        """Takes the next record if it fits; whether it does."""
        if record[0] == "options":
            fits = not self._has_options
            self._has_options = True
            return fits
        if not self._has_options:
            return False
        if record[0] == "edit":
            return self._take_edit(record[1], record[2])
        return self._take_version(record[1:])

    def _take_edit(self, time, edit):
        before = (self._sources, self._pages)
        try:
            after = edited(self._sources, self._pages, edit)
        except TooManySources:
            return False
        if time < self._edit_time or after == before:
            return False
        self._sources, self._pages = after
        self._edits += 1
        self._edit_time = time
        return True

    def _take_version(self, numbers):
        goes_back = any([new < old for new, old in zip(numbers, self._version)])
        if goes_back or numbers[1] > self._edits:
            return False
        self._version = numbers
        return True
