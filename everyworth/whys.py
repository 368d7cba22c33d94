"""Whys: the semiring of sets of facts of which none is a part of another (points 6 and 7)."""

from everyworth.errors import TooLarge
from everyworth.kinds import ascends, is_natural

MOST_SETS = 400


class Whys:
    """Ascending tuples of sets; a set is an ascending tuple of facts."""

    def zero(self):
        """Return the element that is neutral for plus."""
        return ()

    def one(self):
        """Return the element that is neutral for times."""
        return ((),)

    def plus(self, a, b):
        """Return the least ones of the sets of both."""
        facts = facts_of(a + b)
        return _whys_of(masks_of(a + b, facts), facts)

    def times(self, a, b):
        """Return the least ones of the unions of a set of a with a set of b."""
        facts = facts_of(a + b)
        firsts = masks_of(a, facts)
        seconds = masks_of(b, facts)
        return _whys_of([first | second for first in firsts for second in seconds], facts)

    def star(self, a):
        """Return the star, which has the empty set alone for each element."""
        return ((),)

    def is_element(self, a):
        """Tell whether a thing is an element."""
        if not isinstance(a, tuple) or not all(_is_set(part) for part in a):
            return False
        return ascends(a) and _none_within_another(a)


def _is_set(thing):
    if not isinstance(thing, tuple) or not all(is_natural(fact) for fact in thing):
        return False
    return ascends(thing)


def _none_within_another(sets):
    masks = masks_of(sets, facts_of(sets))
    return len(least_masks(masks, len(masks))) == len(masks)


def facts_of(sets):
    """Return the facts in some sets, ascending."""
    return sorted({fact: True for facts in sets for fact in facts})


def masks_of(sets, facts):
    """Return each set as an integer in which a bit tells by its place the fact in the list."""
    bits = {facts[k]: 1 << k for k in range(len(facts))}
    return [sum([bits[fact] for fact in one]) for one in sets]


def _whys_of(masks, facts):
    kept = least_masks(masks, MOST_SETS + 1)
    if len(kept) > MOST_SETS:
        raise TooLarge("there would be more than 400 sets")
    return tuple(sorted([set_of(mask, facts) for mask in kept]))


def set_of(mask, facts):
    """Return the ascending tuple of the facts in a list whose bits a mask has."""
    found = []
    while mask:
        lowest = mask & -mask
        found.append(facts[lowest.bit_length() - 1])
        mask = mask ^ lowest
    return tuple(found)


def least_masks(masks, enough):
    """Return the masks of which no other one is a part, each once, but no more than enough."""
    kept = []
    by_lowest = {}
    # A part of a mask is a lesser integer: so in this order each part comes first.
    for mask in sorted(masks):
        if len(kept) == enough:
            break
        if not _has_part(mask, by_lowest):
            kept.append(mask)
            by_lowest.setdefault(mask & -mask, []).append(mask)
    return kept


def _has_part(mask, by_lowest):
    # The lowest bit of a part is a bit of the whole: few masks have to be compared.
    if 0 in by_lowest:
        return True
    rest = mask
    while rest:
        lowest = rest & -rest
        if any(part & mask == part for part in by_lowest.get(lowest, ())):
            return True
        rest = rest ^ lowest
    return False
