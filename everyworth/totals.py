"""Totals over views: sums of values of those rows that are there (point 30)."""

from everyworth.circuits import Reckoner, all_made
from everyworth.errors import InvalidArgument
from everyworth.meaning import columns_of
from everyworth.semirings import Events, Numbers


def totals(engine, view, columns, column):
    """Return the dict from the values in some columns to the totals of another column."""
    arity = engine.arity(view)
    if not all(0 <= place < arity for place in [*columns, column]):
        raise InvalidArgument("there is no such column")
    groups = {}
    for row in engine.rows(view):
        if isinstance(row[column], str):
            raise InvalidArgument("there is a text in the column of the numbers")
        pair = (engine.node(view, row), row[column])
        groups.setdefault(columns_of(row, columns), []).append(pair)
    return {values: tuple(groups[values]) for values in groups}


def in_numbers(circuits, total, worths):
    """Return the sum of the numbers, each times the worth of its node in `Numbers`."""
    found = _worths_of_nodes(circuits, total, Numbers(), worths)
    return sum([found[node] * number for node, number in total])


def in_events(circuits, total, count, worths):
    """Return for each bit the sum of the numbers whose node's worth has this bit."""
    found = _worths_of_nodes(circuits, total, Events(count), worths)
    return [_sum_with_bit(total, found, bit) for bit in range(count)]


def _worths_of_nodes(circuits, total, semiring, worths):
    nodes = [node for node, number in total]
    return all_made(circuits, nodes, Reckoner(semiring, worths))


def _sum_with_bit(total, found, bit):
    return sum([number for node, number in total if found[node] >> bit & 1])
