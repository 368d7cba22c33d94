"""The product of two semirings (point 9)."""

from everyworth.kinds import is_pair


class Both:
    """Pairs of an element of the first semiring and one of the second, part by part."""

    def __init__(self, first, second):
        self._first = first
        self._second = second

    def zero(self):
        """Return the element that is neutral for plus."""
        return self._first.zero(), self._second.zero()

    def one(self):
        """Return the element that is neutral for times."""
        return self._first.one(), self._second.one()

    def plus(self, a, b):
        """Return the sum, part by part."""
        return self._first.plus(a[0], b[0]), self._second.plus(a[1], b[1])

    def times(self, a, b):
        """Return the product, part by part."""
        return self._first.times(a[0], b[0]), self._second.times(a[1], b[1])

    def star(self, a):
        """Return the star, if both parts have one."""
        return self._first.star(a[0]), self._second.star(a[1])

    def is_element(self, a):
        """Tell whether a thing is an element."""
        if not is_pair(a) or not self._first.is_element(a[0]):
            return False
        return self._second.is_element(a[1])
