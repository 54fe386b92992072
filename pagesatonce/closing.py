"""Which requested pages can be published together, and what they are then."""

from pagesatonce.rendering import NOTHING, all_results


def closed(pages, results):
    """The closed pages, and the tuples (name, reason) of those that stay behind, as two lists."""
    kept = _greatest_closed(pages, results)
    behind = [(name, _reason(results[name], kept)) for name in pages if name not in kept]
    return (kept, behind)


def publish(sources, attempts, pages):
    """The pages and those that stay behind, as in a version, of what the sources render to."""
    results = all_results(sources, attempts)
    return published_parts(pages, {name: results.get(name, NOTHING) for name in pages})


def published_parts(pages, results):
    """The pages and those that stay behind, as in a version, where results has the result of each page."""
    kept, behind = closed(pages, results)
    return (tuple([(name, results[name][1]) for name in kept]), tuple(behind))


def _greatest_closed(pages, results):
    kept = [name for name in pages if results[name][0] == "text"]
    before = None
    # What one page leaves behind may be what another one links to.
    while kept != before:
        before = kept
        kept = [name for name in before if _missing_link(results[name], before) is None]
    return kept


def _missing_link(outcome, kept):
    """The first link of a text that is not kept, or None."""
    for link in outcome[2]:
        if link not in kept:
            return link
    return None


def _reason(outcome, kept):
    if outcome[0] != "text":
        return outcome
    return ("link", _missing_link(outcome, kept))
