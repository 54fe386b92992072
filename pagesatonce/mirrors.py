"""Mirrors: they collect the letters of a house, and show whole versions only."""

from pagesatonce.errors import UnlikeLetters


class Mirror:
    """The letters that were heard, and the newest version of which nothing is missing."""

    def __init__(self):
        # The texts of pages by number and name.
        self._texts = {}
        # The tuples (names, behind) of seals by number.
        self._contents = {}
        # The times of seals by number and then by count: a version may be published again.
        self._times = {}
        self._shown = (0, 0, 0, (), ())

    def hear(self, letter):
        """Takes a letter; whether the version that it shows changed."""
        before = self._shown
        if letter[0] == "page":
            _, number, name, text = letter
            self._hear_page(number, name, text)
        else:
            _, number, count, time, names, behind = letter
            self._hear_seal(number, count, time, names, behind)
        self._show(number)
        return self._shown != before

    def shown(self):
        """The version that it shows."""
        return self._shown

    def page(self, name):
        """The text of a page of the version that it shows, or None."""
        return dict(self._shown[3]).get(name)

    def _hear_page(self, number, name, text):
        if self._texts.get((number, name), text) != text:
            raise UnlikeLetters("another text of this page was heard before")
        self._texts[(number, name)] = text

    def _hear_seal(self, number, count, time, names, behind):
        content = (names, behind)
        times = self._times.get(number, {})
        if self._contents.get(number, content) != content:
            raise UnlikeLetters("other pages of this number were heard before")
        if times.get(count, time) != time:
            raise UnlikeLetters("another time of this number and count was heard before")
        self._contents[number] = content
        times[count] = time
        self._times[number] = times

    def _show(self, number):
        """Shows the newest version with this number, if it is complete and no newer one is shown."""
        if number not in self._contents:
            return
        names, behind = self._contents[number]
        if not all([(number, name) in self._texts for name in names]):
            return
        count = max(list(self._times[number]))
        if (number, count) >= self._shown[:2]:
            pages = tuple([(name, self._texts[(number, name)]) for name in names])
            self._shown = (number, count, self._times[number][count], pages, behind)
