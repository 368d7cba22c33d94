"""Numbers, costs, levels and events: four built semirings (points 6 and 7)."""

from everyworth.errors import InvalidArgument, NoStar
from everyworth.kinds import is_between, is_natural

MOST_EVENTS = 200


class Numbers:
    """Integers of at least 0, with + and *."""

    def zero(self):
        """Return the element that is neutral for plus."""
        return 0

    def one(self):
        """Return the element that is neutral for times."""
        return 1

    def plus(self, a, b):
        """Return the sum."""
        return a + b

    def times(self, a, b):
        """Return the product."""
        return a * b

    def star(self, a):
        """Return the star of zero; no other number has one."""
        if a != 0:
            raise NoStar("a number above 0 has no star")
        return 1

    def is_element(self, a):
        """Tell whether a thing is an element."""
        return is_natural(a)


class Costs:
    """Integers of at least 0, and None for no way: the least cost counts."""

    def zero(self):
        """Return the element that is neutral for plus."""
        return None

    def one(self):
        """Return the element that is neutral for times."""
        return 0

    def plus(self, a, b):
        """Return the lesser cost, None being greater than all."""
        if a is None:
            return b
        if b is None:
            return a
        return min(a, b)

    def times(self, a, b):
        """Return the sum of both costs, None if one is None."""
        if a is None or b is None:
            return None
        return a + b

    def star(self, a):
        """Return the star, which is 0 for each cost."""
        return 0

    def is_element(self, a):
        """Tell whether a thing is an element."""
        return a is None or is_natural(a)


class Levels:
    """Integers from 0 to top, with the greater and the lesser one."""

    def __init__(self, top):
        if top < 1:
            raise InvalidArgument("the top of levels is at least 1")
        self._top = top

    def zero(self):
        """Return the element that is neutral for plus."""
        return 0

    def one(self):
        """Return the element that is neutral for times."""
        return self._top

    def plus(self, a, b):
        """Return the greater level."""
        return max(a, b)

    def times(self, a, b):
        """Return the lesser level."""
        return min(a, b)

    def star(self, a):
        """Return the star, which is the top for each level."""
        return self._top

    def is_element(self, a):
        """Tell whether a thing is an element."""
        return is_between(a, 0, self._top)


class Events:
    """Sets of so many bits, written as integers, with union and intersection."""

    def __init__(self, count):
        if not 0 <= count <= MOST_EVENTS:
            raise InvalidArgument("the count of events is from 0 to 200")
        self._all_bits = (1 << count) - 1

    def zero(self):
        """Return the element that is neutral for plus."""
        return 0

    def one(self):
        """Return the element that is neutral for times."""
        return self._all_bits

    def plus(self, a, b):
        """Return the union."""
        return a | b

    def times(self, a, b):
        """Return the intersection."""
        return a & b

    def star(self, a):
        """Return the star, which has all bits for each element."""
        return self._all_bits

    def is_element(self, a):
        """Tell whether a thing is an element."""
        return is_between(a, 0, self._all_bits)
