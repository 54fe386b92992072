"""Publishers in tests: how to make and run them, and all that they tell."""

from pagesatonce.publisher import Publisher


def edited(options, *edits, clock=0):
    """A publisher that has made these edits at its beginning."""
    publisher = Publisher(options, clock)
    for edit in edits:
        assert publisher.edit(edit), edit
    return publisher


def finish(publisher):
    """Fires all timers; the publisher."""
    while publisher.turn(9999999):
        pass
    return publisher


def seen(publisher, names=("a", "b", "c", "d", "e", "f", "g", "h")):
    """All that a publisher tells."""
    return {
        "clock": publisher.clock(),
        "count": publisher.count(),
        "sources": publisher.sources(),
        "pages": publisher.pages(),
        "version": publisher.version(),
        "published": publisher.published(),
        "state": publisher.state(),
        "dirty_since": publisher.dirty_since(),
        "next_due": publisher.next_due(),
        "jobs": publisher.jobs(),
        "renderings": {name: publisher.renderings(name) for name in names},
        "required": publisher.required(),
        "attempts_made": publisher.attempts_made(),
    }


def text(characters, *links):
    return ("text", characters, links)


def put(name, characters):
    return ("set", name, characters)


def pages(*names):
    return ("pages", names)
