"""The renderings that are kept, so that nothing is rendered whose result is known."""

RENDERINGS_MOST = 4


class Cache:
    """For each name the renderings (name, text, dependencies, result) that were added last."""

    def __init__(self):
        # For each name the one that was added last comes first.
        self._renderings = {}

    def add(self, rendering):
        """Adds a rendering, or makes one that is there the last one."""
        name = rendering[0]
        others = [other for other in self.renderings(name) if other != rendering]
        self._renderings[name] = ([rendering] + others)[:RENDERINGS_MOST]

    def renderings(self, name):
        """The list of the renderings of a name, the one that was added last first."""
        return list(self._renderings.get(name, []))

    def keep(self, names):
        """Removes the renderings of all names but these."""
        self._renderings = {name: kept for name, kept in self._renderings.items() if name in names}

    def find(self, name, text, found):
        """The result of the rendering of a name with a text and a list of dependencies, or None."""
        for rendering in self.renderings(name):
            if rendering[1:3] == (text, tuple(found)):
                return rendering[3]
        return None
