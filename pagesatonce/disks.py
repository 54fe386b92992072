"""A disk of blocks whose power can fail at any write."""

from pagesatonce.errors import OutOfRange, PowerCut

BLOCK = 32
BLOCKS_MOST = 400

_BLOCKS_LEAST = 8
_BYTE_MOST = 255
_SCHEDULE_MOST = 100000


class Disk:
    """Blocks of bytes; what is written to them waits until a flush."""

    def __init__(self, blocks):
        if not _BLOCKS_LEAST <= blocks <= BLOCKS_MOST:
            raise OutOfRange("blocks")
        self._stored = [[0] * BLOCK for _ in range(blocks)]
        # The waiting writes (at, block) in order.
        self._waiting = []
        self._cuts = 0
        # How many writes and flushes go ahead of the scheduled cut; None if no cut is scheduled.
        self._ahead = None
        self._torn = []

    def size(self):
        """The number of blocks."""
        return len(self._stored)

    def read(self, at):
        """A block as the waiting writes would leave it."""
        self._check_at(at)
        for place, block in reversed(self._waiting):
            if place == at:
                return list(block)
        return list(self._stored[at])

    def write(self, at, block):
        """Writes a block, as soon as a flush follows."""
        self._check_at(at)
        if len(block) != BLOCK or not _are_within(block, _BYTE_MOST):
            raise OutOfRange("block")
        self._count_down()
        self._waiting.append((at, list(block)))

    def flush(self):
        """Performs all waiting writes in order."""
        self._count_down()
        self._store([BLOCK] * len(self._waiting))

    def pending_count(self):
        """How many writes wait."""
        return len(self._waiting)

    def cut_count(self):
        """How often the power was cut."""
        return self._cuts

    def cut_power(self, torn):
        """Cuts the power; of waiting write number i only the first torn[i] bytes are stored, 0 without such an item."""
        _check_torn(torn)
        missing = len(self._waiting) - len(torn)
        self._store(list(torn) + [0] * missing)
        self._cuts += 1
        self._ahead = None

    def schedule_cut(self, many, torn):
        """Lets the power be cut instead of the next write or flush after so many others."""
        if not 0 <= many <= _SCHEDULE_MOST:
            raise OutOfRange("many")
        _check_torn(torn)
        self._ahead = many
        self._torn = list(torn)

    def _check_at(self, at):
        if not 0 <= at < len(self._stored):
            raise OutOfRange("at")

    def _count_down(self):
        """Counts a write or flush that begins; raises PowerCut if the power is cut instead."""
        if self._ahead is None:
            return
        if self._ahead == 0:
            self.cut_power(self._torn)
            raise PowerCut("the power was cut as it was scheduled")
        self._ahead -= 1

    def _store(self, lengths):
        """Stores of each waiting write so many of its first bytes; none waits afterwards."""
        for (at, block), length in zip(self._waiting, lengths):
            self._stored[at] = block[:length] + self._stored[at][length:]
        self._waiting = []


def _check_torn(torn):
    if not _are_within(torn, BLOCK):
        raise OutOfRange("torn")


def _are_within(numbers, most):
    return all([0 <= number <= most for number in numbers])
