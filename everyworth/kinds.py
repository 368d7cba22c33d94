"""Plain tests of things that may be anything, for all files of the package."""


def is_integer(thing):
    """Tell whether a thing is an integer; True and False are none."""
    return isinstance(thing, int) and not isinstance(thing, bool)


def is_natural(thing):
    """Tell whether a thing is an integer of at least 0."""
    return is_integer(thing) and thing >= 0


def is_between(thing, low, high):
    """Tell whether a thing is an integer from low to high."""
    return is_integer(thing) and low <= thing <= high


def is_pair(thing):
    """Tell whether a thing is a tuple of two things."""
    return isinstance(thing, tuple) and len(thing) == 2


def is_decimal(text):
    """Tell whether a text consists of one or more of the digits from 0 to 9."""
    return text != "" and all("0" <= letter <= "9" for letter in text)


def ascends(things):
    """Tell whether each of several comparable things is less than the next one."""
    return all(things[k] < things[k + 1] for k in range(len(things) - 1))
