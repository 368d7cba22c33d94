"""Finite semirings, told by tables that are checked for every axiom (point 8)."""

from everyworth.errors import AxiomError, NoStar
from everyworth.kinds import is_between

MOST_NUMBERS = 32


class Finite:
    """The semiring of the numbers from 0 to n - 1 with the sums and products of two tables."""

    def __init__(self, plus_table, times_table, one, stars=None):
        plus = _copied(plus_table)
        times = _copied(times_table)
        told = None if stars is None else tuple(stars)
        code = _first_failure(plus, times, one, told)
        if code is not None:
            raise AxiomError(code)
        self._plus = plus
        self._times = times
        self._one = one
        self._stars = (None,) * len(plus) if told is None else told

    def zero(self):
        """Return the element that is neutral for plus."""
        return 0

    def one(self):
        """Return the element that is neutral for times."""
        return self._one

    def plus(self, a, b):
        """Return the sum that the table tells."""
        return self._plus[a][b]

    def times(self, a, b):
        """Return the product that the table tells."""
        return self._times[a][b]

    def star(self, a):
        """Return the star of an element, if one is told."""
        star = self._stars[a]
        if star is None:
            raise NoStar("no star is told of this element")
        return star

    def is_element(self, a):
        """Tell whether a thing is an element."""
        return is_between(a, 0, self.size() - 1)

    def size(self):
        """Return how many numbers the semiring has."""
        return len(self._plus)


def _copied(table):
    return tuple([tuple(row) for row in table])


def _first_failure(plus, times, one, stars):
    """Return the code of the first axiom that fails, in the order of point 8, or None."""
    if not _sizes_fit(plus, times, stars):
        return "size"
    if not _entries_fit(plus, times, one, stars):
        return "range"
    if not _is_symmetric(plus):
        return "plus-order"
    if not _is_associative(plus):
        return "plus-group"
    if not _is_neutral(plus, 0):
        return "zero"
    if not _is_symmetric(times):
        return "times-order"
    if not _is_associative(times):
        return "times-group"
    if not _is_neutral(times, one):
        return "one"
    if any(times[0]):
        return "empty"
    if not _is_distributive(plus, times):
        return "spread"
    if stars is not None and not _stars_fit(plus, times, one, stars):
        return "star"
    return None


def _sizes_fit(plus, times, stars):
    n = len(plus)
    if not 1 <= n <= MOST_NUMBERS or len(times) != n:
        return False
    if stars is not None and len(stars) != n:
        return False
    return all(len(row) == n for row in plus + times)


def _entries_fit(plus, times, one, stars):
    top = len(plus) - 1
    entries = [entry for row in plus + times for entry in row]
    told = [star for star in (stars or ()) if star is not None]
    return all(is_between(entry, 0, top) for entry in entries + told + [one])


def _is_symmetric(table):
    n = len(table)
    return all(table[a][b] == table[b][a] for a in range(n) for b in range(a))


def _is_associative(table):
    n = len(table)
    for a in range(n):
        for b in range(n):
            left = table[table[a][b]]
            if any(table[a][table[b][c]] != left[c] for c in range(n)):
                return False
    return True


def _is_neutral(table, number):
    return all(table[number][a] == a for a in range(len(table)))


def _is_distributive(plus, times):
    n = len(plus)
    for a in range(n):
        row = times[a]
        for b in range(n):
            if any(row[plus[b][c]] != plus[row[b]][row[c]] for c in range(n)):
                return False
    return True


def _stars_fit(plus, times, one, stars):
    for a in range(len(stars)):
        star = stars[a]
        if star is not None and star != plus[one][times[a][star]]:
            return False
    return True
