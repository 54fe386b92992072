"""The log on a disk: records one after another, from the first block on."""

from pagesatonce.blocks import PIECES_MOST, decode_piece, encode_record
from pagesatonce.disks import BLOCK
from pagesatonce.errors import LogFull, NotKept, NotOpen
from pagesatonce.fitting import Fitting
from pagesatonce.options import check_options
from pagesatonce.records import read_record, write_record


class Log:
    """The records on a disk, after which others can be appended; made by open_log."""

    def __init__(self, disk, records, end):
        self._disk = disk
        self._records = list(records)
        # The first block behind the records.
        self._end = end
        self._cuts = disk.cut_count()

    def records(self):
        """The list of the records."""
        return list(self._records)

    def append(self, record):
        """Appends a record, which a cut of the power can take away until it is synced; how many there are then."""
        self._check_open()
        if not self.room(record):
            raise LogFull("there are not enough blocks left")
        blocks = encode_record(len(self._records), write_record(record))
        for place, block in enumerate(blocks):
            self._disk.write(self._end + place, block)
        self._records.append(record)
        self._end += len(blocks)
        return len(self._records)

    def room(self, record):
        """Whether there are enough blocks left for a record."""
        return blocks_needed(record) <= self.free_blocks()

    def sync(self):
        """Keeps all records from being lost."""
        self._check_open()
        self._disk.flush()

    def free_blocks(self):
        """The number of blocks behind the records."""
        return self._disk.size() - self._end

    def is_open(self):
        """Whether the power has not been cut since it was opened."""
        return self._disk.cut_count() == self._cuts

    def _check_open(self):
        if not self.is_open():
            raise NotOpen("the power was cut since the log was opened")


def format_disk(disk, options):
    """Makes a disk hold a log of these options without anything else."""
    check_options(options)
    blocks = encode_record(0, write_record(("options", options)))
    for at, block in enumerate(blocks):
        disk.write(at, block)
    _clear_from(disk, len(blocks))


def open_log(disk):
    """The log on a disk; what is no part of it is cleared."""
    records, end = read_log(disk)
    _clear_from(disk, end)
    return Log(disk, records, end)


def read_log(disk):
    """The list of the records of the log on a disk and the first block behind them; changes nothing."""
    fitting = Fitting()
    records = []
    end = 0
    text = _text_at(disk, end, len(records))
    while text is not None:
        record = read_record(text)
        if record is None or not fitting.take(record):
            break
        records.append(record)
        end += blocks_needed(record)
        text = _text_at(disk, end, len(records))
    if records == []:
        raise NotKept("the disk holds no log")
    return (records, end)


def blocks_needed(record):
    """The number of blocks that a record needs."""
    return len(encode_record(0, write_record(record)))


def _text_at(disk, at, number):
    """The text of the record with this number whose blocks begin at this place, or None."""
    if at >= disk.size():
        return None
    first = decode_piece(disk.read(at))
    if first is None:
        return None
    many = first[1]
    if many > PIECES_MOST or at + many > disk.size():
        return None
    blocks = [disk.read(place) for place in range(at, at + many)]
    pieces = [decode_piece(block) for block in blocks]
    if None in pieces:
        return None
    text = "".join([piece[3] for piece in pieces])
    # Pieces alone do not tell that their indexes, their numbers and their lengths are those of one record.
    if encode_record(number, text) != blocks:
        return None
    return text


def _clear_from(disk, at):
    for place in range(at, disk.size()):
        disk.write(place, [0] * BLOCK)
    disk.flush()
