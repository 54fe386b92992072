"""Jobs: the renderings of names that are under way."""

from pagesatonce.names import failures

RUNNING = "running"
BACKING_OFF = "backing off"
QUEUED = "queued"


class Job:
    """The rendering of a name with the text and the dependencies with which it started."""

    def __init__(self, name, text, found):
        self.name = name
        self.text = text
        self.found = tuple(found)
        # A new job waits for its first attempt just as another one does for its next.
        self.phase = QUEUED
        self.attempt = 0

    def start_attempt(self):
        """It runs, for the next time."""
        self.phase = RUNNING
        self.attempt += 1

    def is_failing(self):
        """Whether the attempt that runs is one that fails."""
        return self.attempt <= failures(self.text)

    def is_valid(self, text, snapshot):
        """Whether it still renders what is needed: text is that of the snapshot for its name, None without one."""
        if self.name not in snapshot.required() or snapshot.known(self.name) is not None:
            return False
        # Its own dependencies were all known, so that the same ones are known, too.
        return self.text == text and self.found == tuple(snapshot.told(self.name))
