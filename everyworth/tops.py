"""Tops: the semiring of the k least costs (point 33)."""

from everyworth.circuits import worth
from everyworth.errors import InvalidArgument
from everyworth.kinds import is_natural

MOST_KEPT = 20


class Tops:
    """Ascending tuples of at most k costs, in which a cost may occur several times."""

    def __init__(self, k):
        if not 1 <= k <= MOST_KEPT:
            raise InvalidArgument("the number of costs that are kept is from 1 to 20")
        self._k = k

    def zero(self):
        """Return the element that is neutral for plus."""
        return ()

    def one(self):
        """Return the element that is neutral for times."""
        return (0,)

    def plus(self, a, b):
        """Return the least costs of both."""
        return self._least(a + b)

    def times(self, a, b):
        """Return the least sums of a cost of the one and a cost of the other."""
        return self._least([first + second for first in a for second in b])

    def star(self, a):
        """Return the star: the least costs of taking costs of a as often as one likes."""
        if 0 in a:
            return (0,) * self._k
        # A sum of more than k costs above 0 has more than k lesser ones: k steps are enough.
        total = self.one()
        for _ in range(self._k):
            total = self.plus(self.one(), self.times(a, total))
        return total

    def is_element(self, a):
        """Tell whether a thing is an element."""
        if not isinstance(a, tuple) or len(a) > self._k:
            return False
        return all(is_natural(cost) for cost in a) and list(a) == sorted(a)

    def _least(self, costs):
        return tuple(sorted(costs)[:self._k])


def best_costs(circuits, node, k, costs):
    """Return the k least costs of the ways that a node tells, told the cost of each fact."""
    semiring = Tops(k)
    alone = {fact: (costs[fact],) for fact in circuits.facts_in(node)}
    return worth(circuits, node, semiring, alone)
