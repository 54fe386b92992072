"""Houses in tests: how to make and run them, and all that they tell."""

from pagesatonce.disks import Disk
from pagesatonce.house import House
from pagesatonce.log import format_disk, open_log
from stores import disk_of, texts_on

OPTIONS = (2, 10, 3, 5, 15, 20, 100)
FIRST = "options 2 10 3 5 15 20 100"


def formatted(size=400, options=OPTIONS):
    disk = Disk(size)
    format_disk(disk, options)
    return disk


def house_of(*texts, size=400):
    """A house on a disk whose log has these texts behind the options."""
    return House(disk_of(texts_on(FIRST, *texts), size))


def run(house):
    """Lets time pass until nothing is due any more; the house."""
    while house.next_due() is not None:
        house.advance(house.next_due() - house.clock())
    return house


def seen(house):
    """All that a house tells."""
    return {
        "version": house.version(),
        "clock": house.clock(),
        "count": house.count(),
        "free_blocks": house.free_blocks(),
        "sources": house.sources(),
        "pages": house.pages(),
        "state": house.state(),
        "next_due": house.next_due(),
        "history": house.history(),
        "letters": house.letters(),
    }


def records_on(disk):
    """The records of the log on a disk; opens it, so that nothing waits any more."""
    return open_log(disk).records()


def versions_on(disk):
    return [record[1:] for record in records_on(disk) if record[0] == "version"]


def after(edits):
    """The sources and the pages after some edits."""
    sources, names = {}, ()
    for kind, *parts in edits:
        if kind == "set":
            sources[parts[0]] = parts[1]
        elif kind == "remove":
            del sources[parts[0]]
        else:
            names = parts[0]
    return sources, names
