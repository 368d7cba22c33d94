"""Reasons of rows: least whys, missing sets and repairs (points 23, 25 and 26)."""

from everyworth.circuits import ONE, ZERO, Circuits, Exchange, all_made
from everyworth.errors import InvalidArgument, TooLarge
from everyworth.meaning import rows_made
from everyworth.whys import MOST_SETS, least_masks, set_of

# In between there may be more sets than at the end, as sums leave out what products have put
# together; these bounds are for work that would not end.
MOST_BETWEEN = 4000
MOST_UNIONS = 200000


class Ways:
    """Makes of a node the least sets with which it is there: its worth in `Whys`, as masks.

    A mask is an integer that tells by its bits what is in a set.
    """

    def __init__(self, masks):
        self._masks = masks

    def fact(self, k):
        """Return the one set with which a fact is there."""
        return [self._masks[k]]

    def plus(self, parts):
        """Return the least sets with which one of the parts is there."""
        return _bounded([way for part in parts for way in part])

    def times(self, parts):
        """Return the least sets with which all parts are there."""
        ways = [0]
        for part in sorted(parts):
            if len(ways) * len(part) > MOST_UNIONS:
                raise TooLarge("there would be too many sets in between")
            ways = _bounded([one | other for one in ways for other in part])
        return ways

    def star(self, part):
        """Return the empty set: one is a part of a star, and needs nothing."""
        return [0]


class Cuts:
    """Makes of a node the least sets of facts without which it is zero, as masks.

    A sum is cut by cutting each part, a product by cutting one: so they are those of `Ways`
    exchanged. No bound is told for repairs.
    """

    def fact(self, k):
        """Return what cuts a fact: this fact."""
        return [1 << k]

    def plus(self, parts):
        """Return what cuts all parts."""
        cuts = [0]
        # In order, parts that one fact cuts stand together: in between there are few cuts.
        for part in sorted(parts):
            cuts = _least([one | other for one in cuts for other in part])
        return cuts

    def times(self, parts):
        """Return what cuts one of the parts."""
        return _least([cut for part in parts for cut in part])

    def star(self, part):
        """Return what cuts a star: nothing does, as one is a part of it."""
        return []


class Presence:
    """Makes of a node whether it is there still when some facts are given up."""

    def __init__(self, gone):
        self._gone = gone

    def fact(self, k):
        """Tell whether a fact is there still."""
        return k not in self._gone

    def plus(self, parts):
        """Tell whether a part is there still."""
        return any(parts)

    def times(self, parts):
        """Tell whether all parts are there still."""
        return all(parts)

    def star(self, part):
        """Tell that a star is there always, as one is a part of it."""
        return True


def least_whys(engine, view, row):
    """Return the least sets of facts with which alone the row is there, ascending."""
    node = engine.node(view, row)
    masks = {k: 1 << k for k in engine.circuits().facts_in(node)}
    return _sets_within_bound(all_made(engine.circuits(), [node], Ways(masks))[node])


def repairs(engine, view, row):
    """Return the least sets of facts without which the row is not there, ascending."""
    node = engine.node(view, row)
    return _sets(all_made(engine.circuits(), [node], Cuts())[node])


def missing(engine, view, row, candidates):
    """Return the least sets of indexes of candidates with which the row would be there."""
    there = engine.node(view, row) != ZERO
    facts = engine.facts()
    # What is there already needs no candidate, and one takes fewer nodes than facts do.
    ones = {number: ONE for number in range(facts.count()) if facts.is_there(number)}
    numbers = _put_there(facts, candidates)
    if there:
        return ((),)
    circuits = Circuits()
    nodes = rows_made(engine.query(view), facts, engine.queries(), Exchange(circuits, ones))
    node = nodes.get(row, ZERO)
    masks = {numbers[index]: 1 << index for index in range(len(numbers))}
    return _sets_within_bound(all_made(circuits, [node], Ways(masks))[node])


def rows_left(engine, view, numbers):
    """Return the rows that would be there without some facts, told from the circuits alone."""
    nodes = {row: engine.node(view, row) for row in engine.rows(view)}
    gone = {number: True for number in numbers}
    left = all_made(engine.circuits(), list(nodes.values()), Presence(gone))
    return [row for row in nodes if left[nodes[row]]]


def _put_there(facts, candidates):
    """Put candidates into a store of facts, and return their numbers.

    The store itself raises UnknownTable, and InvalidArgument for a row of another length.
    """
    numbers = []
    for table, row in candidates:
        number = facts.find(table, row)
        if number is None:
            number = facts.add(table, row)
        elif facts.is_there(number):
            raise InvalidArgument("the candidate is there, or occurred before")
        else:
            facts.bring_back(number)
        numbers.append(number)
    return numbers


def _least(masks):
    return least_masks(masks, len(masks))


def _bounded(masks):
    least = least_masks(masks, MOST_BETWEEN + 1)
    if len(least) > MOST_BETWEEN:
        raise TooLarge("there would be too many sets in between")
    return least


def _sets_within_bound(masks):
    if len(masks) > MOST_SETS:
        raise TooLarge("there would be more than 400 sets")
    return _sets(masks)


def _sets(masks):
    """Return the sets of some masks, each ascending, in ascending order."""
    longest = max([mask.bit_length() for mask in masks], default=0)
    numbers = list(range(longest))
    return tuple(sorted([set_of(mask, numbers) for mask in masks]))
