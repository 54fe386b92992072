"""What is known of sources and pages from a cache, and what can be rendered next."""

from pagesatonce.rendering import NOTHING, all_required, told_dependencies


class Snapshot:
    """Sources and requested pages, and what a cache tells of them at the time when this is created."""

    def __init__(self, sources, pages, attempts, cache):
        # A rendering has its result already, so that the number of attempts does not matter here.
        self._pages = tuple(pages)
        self._told = {}
        self._results = {}
        # Names depend only on names after them: from the last one on, all dependencies are there.
        for name in sorted(sources, reverse=True):
            text = sources[name]
            found = told_dependencies(name, text, self._results)
            self._told[name] = found
            self._results[name] = cache.find(name, text, found) if _all_known(found) else None

    def known(self, name):
        """The known result of a name, or None."""
        return self._results.get(name, NOTHING)

    def told(self, name):
        """The list of the dependencies of a name that known results tell, with None for what is not known."""
        return list(self._told.get(name, []))

    def required(self):
        """The rising list of the required names."""
        return all_required(self._pages, self._told)

    def renderable(self):
        """The rising list of the names that can be rendered now."""
        return [name for name in self.required() if self.known(name) is None and _all_known(self._told[name])]

    def is_ready(self):
        """Whether all required names are known."""
        return all([self.known(name) is not None for name in self.required()])


def _all_known(found):
    return all([outcome is not None for _, outcome in found])
