"""The segments of a text: plain characters, inclusions and links."""

from pagesatonce.names import is_after, is_name

# The signs before and after the name of each kind of segment that is no text.
_SIGNS = {"include": ("<", ">"), "indirect": ("<@", ">"), "link": ("[", "]")}


def split(name, text):
    """The list of the segments of the text of a name."""
    segments = []
    done = 0
    at = 0
    while at < len(text):
        segment = _segment_at(name, text, at)
        if segment is None:
            at += 1
        else:
            segments.extend(_plain(text[done:at]))
            segments.append(segment)
            at += len(_text_of(segment))
            done = at
    segments.extend(_plain(text[done:]))
    return segments


def join(segments):
    """The text that has these segments."""
    return "".join([_text_of(segment) for segment in segments])


def _plain(characters):
    # A list, since no characters make no segment.
    if characters == "":
        return []
    return [("text", characters)]


def _segment_at(name, text, at):
    """The segment that is no text and begins at this place, or None."""
    for kind, (before, behind) in _SIGNS.items():
        start = at + len(before)
        # No name contains the sign behind it, so that only the first such sign can end it.
        end = text.find(behind, start)
        if text[at:start] == before and end >= 0:
            inner = text[start:end]
            # A text may link to any name, but include only those after its own.
            if is_name(inner) and (kind == "link" or is_after(inner, name)):
                return (kind, inner)
    return None


def _text_of(segment):
    kind, characters = segment
    if kind == "text":
        return characters
    before, behind = _SIGNS[kind]
    return before + characters + behind
