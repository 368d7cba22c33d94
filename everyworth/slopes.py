"""Slopes: how much a node grows with a fact (point 34)."""

from everyworth.circuits import worth
from everyworth.errors import NoStar
from everyworth.kinds import is_integer, is_pair
from everyworth.normal import need_no_star


class Slopes:
    """Pairs of a value and a slope, with the rules of derivatives."""

    def zero(self):
        """Return the element that is neutral for plus."""
        return 0, 0

    def one(self):
        """Return the element that is neutral for times."""
        return 1, 0

    def plus(self, a, b):
        """Return the sum, part by part."""
        return a[0] + b[0], a[1] + b[1]

    def times(self, a, b):
        """Return the product, with the slope of a product."""
        return a[0] * b[0], a[0] * b[1] + a[1] * b[0]

    def star(self, a):
        """Return the star of zero; no other pair has one."""
        if a != (0, 0):
            raise NoStar("a pair that is not zero has no star")
        return 1, 0

    def is_element(self, a):
        """Tell whether a thing is an element."""
        return is_pair(a) and is_integer(a[0]) and is_integer(a[1])


def slope(circuits, node, fact, numbers):
    """Return how much the normal form of a node grows with a fact, at numbers for all facts."""
    need_no_star(circuits, node)
    pairs = {k: (numbers[k], 1 if k == fact else 0) for k in circuits.facts_in(node)}
    return worth(circuits, node, Slopes(), pairs)[1]
