"""What edits make of sources and requested pages."""

from pagesatonce.errors import OutOfRange, TooManySources
from pagesatonce.names import SOURCES_MOST, are_pages, is_name, is_text


def edited(sources, pages, edit):
    """The sources, as a dict, and the pages after an edit, as a tuple of both; those before stay as they are."""
    _check_bounds(edit)
    if edit[0] == "pages":
        return (sources, tuple(edit[1]))
    changed = dict(sources)
    if edit[0] == "set":
        changed[edit[1]] = edit[2]
    else:
        changed.pop(edit[1], None)
    if len(changed) > SOURCES_MOST:
        raise TooManySources("there is no room for another source")
    return (changed, pages)


def all_edited(sources, pages, edits):
    """The sources, as a dict, and the pages after some edits, and how many of these changed anything, as a tuple."""
    many = 0
    for edit in edits:
        after = edited(sources, pages, edit)
        if after != (sources, pages):
            many += 1
        sources, pages = after
    return (sources, pages, many)


def _check_bounds(edit):
    if edit[0] == "pages":
        if not are_pages(edit[1]):
            raise OutOfRange("pages")
        return
    if not is_name(edit[1]):
        raise OutOfRange("name")
    if edit[0] == "set" and not is_text(edit[2]):
        raise OutOfRange("text")
