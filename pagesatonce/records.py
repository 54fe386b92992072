"""Edits and the records of a log as texts."""

from pagesatonce.names import are_pages, is_name, is_text
from pagesatonce.options import are_options

DIGITS_MOST = 7

_QUOTE = '"'


def write_edit(edit):
    """The written form of an edit."""
    if edit[0] == "set":
        return f"set {edit[1]} {_QUOTE}{edit[2]}{_QUOTE}"
    if edit[0] == "remove":
        return f"remove {edit[1]}"
    return " ".join(["pages"] + list(edit[1]))


def write_record(record):
    """The text of a record."""
    kind = record[0]
    if kind == "edit":
        return f"edit {record[1]} {write_edit(record[2])}"
    numbers = record[1] if kind == "options" else record[1:]
    return " ".join([kind] + [str(number) for number in numbers])


def read_edit(text):
    """The edit with this written form, or None."""
    kind, *words = text.split(" ")
    if kind == "set":
        return _read_set(text)
    if kind == "remove" and len(words) == 1 and is_name(words[0]):
        return ("remove", words[0])
    if kind == "pages" and are_pages(words):
        return ("pages", tuple(words))
    return None


def read_record(text):
    """The record with this text, or None."""
    kind, _, rest = text.partition(" ")
    if kind == "edit":
        return _read_edit_record(rest)
    numbers = _read_numbers(rest.split(" "))
    if numbers is None:
        return None
    if kind == "options" and are_options(numbers):
        return ("options", numbers)
    if kind == "version" and len(numbers) == 3:
        return ("version", *numbers)
    return None


def _read_set(text):
    # The text that is set may contain spaces itself.
    words = text.split(" ", 2)
    if len(words) < 3 or not is_name(words[1]):
        return None
    quoted = words[2]
    inner = quoted[1:-1]
    if quoted != _QUOTE + inner + _QUOTE or not is_text(inner):
        return None
    return ("set", words[1], inner)


def _read_edit_record(rest):
    word, _, written = rest.partition(" ")
    numbers = _read_numbers([word])
    edit = read_edit(written)
    if numbers is None or edit is None:
        return None
    return ("edit", numbers[0], edit)


def _read_numbers(words):
    """The tuple of the numbers that these words are, or None if one of them is no number."""
    if not all([_is_number(word) for word in words]):
        return None
    return tuple([int(word) for word in words])


def _is_number(word):
    if not 1 <= len(word) <= DIGITS_MOST or not all(["0" <= sign <= "9" for sign in word]):
        return False
    return word == "0" or not word.startswith("0")
