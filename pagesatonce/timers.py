"""Timers in the order in which they fire."""


class Timers:
    """Timers by their keys: by the times at which they are due, those for the same time as they were set."""

    def __init__(self):
        # The dict keeps the order in which the timers were set.
        self._dues = {}

    def put(self, key, due):
        """Sets a timer; one that is set already is set anew, behind all others for the same time."""
        self.remove(key)
        self._dues[key] = due

    def remove(self, key):
        """Removes a timer; whether it was set."""
        if key not in self._dues:
            return False
        del self._dues[key]
        return True

    def due(self, key):
        """The time at which a timer is due, or None."""
        return self._dues.get(key)

    def first(self):
        """The tuple (due, key) of the first timer, or None."""
        timers = self._in_order()
        if timers == []:
            return None
        return timers[0]

    def keys(self):
        """The list of the keys, in the order of the timers."""
        return [key for _, key in self._in_order()]

    def _in_order(self):
        timers = [(due, key) for key, due in self._dues.items()]
        # By the times alone: sorting leaves those for the same time as they were set.
        return sorted(timers, key=lambda timer: timer[0])
