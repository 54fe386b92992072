"""Names and texts, and their bounds."""

NAME_MOST = 6
TEXT_MOST = 60
SOURCES_MOST = 12
PAGES_MOST = 6

# By its code, since the sign itself may not stand in a string of the program.
_PERCENT = 37


def is_name(text):
    """Whether this string is a name."""
    return 1 <= len(text) <= NAME_MOST and all(["a" <= sign <= "z" for sign in text])


def is_text(text):
    """Whether this string is a text that a name may have."""
    return len(text) <= TEXT_MOST and all([_is_of_text(sign) for sign in text])


def _is_of_text(sign):
    return " " <= sign <= "~" and sign != '"' and ord(sign) != _PERCENT


def is_after(one, other):
    """Whether one name comes after the other one."""
    return one > other


def are_pages(names):
    """Whether these strings can be the requested pages: different names, and not too many."""
    if len(names) > PAGES_MOST or len(set(names)) < len(names):
        return False
    return all([is_name(name) for name in names])


def failures(text):
    """The number of attempts to render this text that fail."""
    return text.count("!")
