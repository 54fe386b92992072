"""The options of a publisher, and the durations and delays that follow from them."""

from pagesatonce.errors import OutOfRange
from pagesatonce.names import SOURCES_MOST

# The least and the greatest value of each option, in their order.
_BOUNDS = ((1, 3), (1, 100), (1, 4), (1, 100), (1, 400), (1, 200), (1, 2000))

# 60 characters have room for 15 indirect inclusions with two dependencies each.
_DEPENDENCIES_MOST = 30


def are_options(options):
    """Whether these integers are options, each within its bounds."""
    if len(options) != len(_BOUNDS):
        return False
    return all([least <= value <= most for value, (least, most) in zip(options, _BOUNDS)])


def check_options(options):
    """Raises OutOfRange if an option is not within its bounds."""
    if not are_options(options):
        raise OutOfRange("options")


def duration(options, many):
    """The ticks that an attempt takes to render a name with so many dependencies."""
    return options[1] * (1 + many)


def delay(options, attempt):
    """The ticks to wait after an attempt, counted from 1, that failed."""
    most = options[4]
    ticks = min(options[3], most)
    for _ in range(attempt - 1):
        ticks = min(2 * ticks, most)
    return ticks


def longest_rendering(options):
    """The most ticks that rendering all sources takes, one after the other."""
    attempts = options[2]
    delays = sum([delay(options, attempt) for attempt in range(1, attempts)])
    return SOURCES_MOST * (attempts * duration(options, _DEPENDENCIES_MOST) + delays)


def longest_latency(options):
    """The most ticks until an edit is in a version."""
    rendering = longest_rendering(options)
    return rendering + max(options[6], rendering)
