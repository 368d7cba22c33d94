"""Impacts: the rows of views in whose trees a fact is (point 36)."""

from everyworth.circuits import all_made


class Traces:
    """Makes of a node whether a fact occurs in it."""

    def __init__(self, number):
        self._number = number

    def fact(self, k):
        """Tell whether this is the fact."""
        return k == self._number

    def plus(self, parts):
        """Tell whether the fact occurs in a part."""
        return any(parts)

    def times(self, parts):
        """Tell whether the fact occurs in a part."""
        return any(parts)

    def star(self, part):
        """Tell whether the fact occurs in the part."""
        return part


def impact(engine, number):
    """Return the pairs of a view and a row in whose node a fact occurs."""
    # For the error alone: a fact that is given up occurs nowhere.
    engine.facts().fact(number)
    pairs = [(view, row) for view in engine.views() for row in engine.rows(view)]
    nodes = [engine.node(view, row) for view, row in pairs]
    occurs = all_made(engine.circuits(), nodes, Traces(number))
    return [pairs[place] for place in range(len(pairs)) if occurs[nodes[place]]]
