"""The chance that a row is there, told those of the facts of its least whys (point 27)."""

from math import gcd

from everyworth.errors import TooLarge
from everyworth.whys import facts_of, least_masks, masks_of

MOST_FACTS = 20


def chance(whys, chances):
    """Return the chance that all facts of at least one of the sets are there."""
    facts = facts_of(whys)
    if len(facts) > MOST_FACTS:
        raise TooLarge("there are more than 20 facts in the sets")
    # The facts are decided one after the other. What is open after some of them are the sets of
    # those that are still needed: ways that leave the same sets open are one way from then on.
    still_open = {}
    sure = _settled(masks_of(whys, facts), 1, still_open)
    whole = 1
    for k, fact in enumerate(facts):
        n, d = chances[fact]
        further = {}
        sure = sure * d
        whole = whole * d
        for masks, weight in still_open.items():
            met = [mask & ~(1 << k) for mask in masks]
            unmet = [mask for mask in masks if mask == mask & ~(1 << k)]
            sure = sure + _settled(met, weight * n, further)
            sure = sure + _settled(unmet, weight * (d - n), further)
        still_open = further
    common = gcd(sure, whole)
    return sure // common, whole // common


def _settled(masks, weight, still_open):
    """Return the weight if a set needs no fact any more; put it to what is open otherwise."""
    least = tuple(least_masks(masks, len(masks)))
    if 0 in least:
        return weight
    if least and weight > 0:
        still_open[least] = still_open.get(least, 0) + weight
    return 0
