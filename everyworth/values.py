"""Names, values and rows, and the order of rows (point 4)."""

from everyworth.kinds import is_integer

LONGEST_NAME = 12
LONGEST_TEXT = 20
LONGEST_ROW = 6
# The one character between the space and the tilde that no text has (point 2).
BARRED = 37


def is_name(thing):
    """Tell whether a thing is a name."""
    if not isinstance(thing, str) or not 1 <= len(thing) <= LONGEST_NAME:
        return False
    return all("a" <= letter <= "z" for letter in thing)


def is_value(thing):
    """Tell whether a thing is a value."""
    if isinstance(thing, str):
        return len(thing) <= LONGEST_TEXT and all(_is_plain(letter) for letter in thing)
    return is_integer(thing)


def _is_plain(letter):
    return " " <= letter <= "~" and ord(letter) != BARRED


def is_row(thing):
    """Tell whether a thing is a row."""
    if not isinstance(thing, tuple) or len(thing) > LONGEST_ROW:
        return False
    return all(is_value(part) for part in thing)


def in_order(rows):
    """Return the rows in ascending order, each once."""
    return sorted({row: True for row in rows}, key=_place)


def _place(row):
    # Integers and texts do not compare: the first item parts them.
    return len(row), [(isinstance(part, str), part) for part in row]
