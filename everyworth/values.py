"""Names, values and rows, and the order of rows (point 4)."""

from everyworth.kinds import is_integer

LONGEST_NAME = 12
LONGEST_TEXT = 20
LONGEST_ROW = 6
# The one character between the space and the tilde that no text has (point 2).
BARRED = 37


def is_name(thing):
    """Tell whether a thing is a name."""
    if not isinstance(thing, str) or not 1 <= len(thing) <= LONGEST_NAME:
        return False
    return all("a" <= letter <= "z" for letter in thing)


def is_value(thing):
    """Tell whether a thing is a value."""
    if isinstance(thing, str):
        return len(thing) <= LONGEST_TEXT and is_plain(thing)
    return is_integer(thing)


def is_plain(text):
    """Tell whether a text has only the characters that texts consist of (point 2)."""
    return all(" " <= letter <= "~" and ord(letter) != BARRED for letter in text)


def is_row(thing):
    """Tell whether a thing is a row."""
    if not isinstance(thing, tuple) or len(thing) > LONGEST_ROW:
        return False
    return all(is_value(part) for part in thing)


def in_order(rows):
    """Return the rows in ascending order, each once."""
    return sorted({row: True for row in rows}, key=_place)


def _place(row):
    # Integers and texts do not compare: the first item parts them.
    return len(row), [(isinstance(part, str), part) for part in row]
