"""Disks in tests: what is on them, and the blocks of records, made in another way than the program does."""

from pagesatonce.disks import Disk
from pagesatonce.errors import PowerCut

ZEROS = [0] * 32


def piece(index, many, number, text):
    """The block of a piece, whether or not it is one of a record."""
    codes = list(text.encode("ascii"))
    return [80, index, many, number // 256, number % 256, len(codes), *codes, *[0] * (25 - len(codes)), 80]


def pieces(number, text):
    """The blocks of the record of a text."""
    parts = []
    while len(text) > 24:
        parts.append(text[:24])
        text = text[24:]
    parts.append(text)
    return [piece(index, len(parts), number, part) for index, part in enumerate(parts)]


def texts_on(*texts):
    """The blocks of a log with these texts."""
    return [block for number, text in enumerate(texts) for block in pieces(number, text)]


def disk_of(blocks, size=40):
    """A disk on which these blocks are stored, and zeros behind them."""
    disk = Disk(size)
    for at, block in enumerate(blocks):
        disk.write(at, block)
    disk.flush()
    return disk


def dump(disk):
    """All blocks of a disk, as they are read."""
    return [disk.read(at) for at in range(disk.size())]


def stored(disk):
    """All blocks of a disk, without what waits; cuts its power."""
    disk.cut_power([])
    return dump(disk)


def is_cut(call, *arguments):
    """Whether the power is cut in a call."""
    try:
        call(*arguments)
    except PowerCut:
        return True
    return False


def steps_of(make, call):
    """How many writes and flushes a call makes of a disk that make() gives: behind so many it is not cut any more."""
    many = 0
    while True:
        disk = make()
        disk.schedule_cut(many, [])
        if not is_cut(call, disk):
            return many
        many += 1
