"""The store of circuits: sums of products that tell how rows come (points 15 to 17 and 19)."""

from everyworth.errors import TooLarge

MOST_NODES = 20000
MOST_IN_ONE = 2000
ZERO = 0
ONE = 1


class Circuits:
    """Nodes that are made when they are asked for first; no two of them are equal."""

    def __init__(self):
        self._shown = [("zero",), ("one",)]
        self._numbers = {("zero",): ZERO, ("one",): ONE}

    def fact(self, k):
        """Return the node of a fact."""
        return self._node(("fact", k))

    def plus(self, nodes):
        """Return the node of the sum of some nodes."""
        return self._several("plus", [node for node in nodes if node != ZERO], ZERO)

    def times(self, nodes):
        """Return the node of the product of some nodes."""
        if ZERO in nodes:
            return ZERO
        return self._several("times", [node for node in nodes if node != ONE], ONE)

    def star(self, node):
        """Return the node of the star of a node."""
        if node == ZERO:
            return ONE
        return self._node(("star", node))

    def shown(self, node):
        """Return the tuple that tells how a node is made."""
        return self._shown[node]

    def count(self):
        """Return the number of nodes."""
        return len(self._shown)

    def facts_in(self, node):
        """Return the facts in a node, ascending."""
        shown = [self._shown[part] for part in nodes_within(self, [node])]
        return sorted([one[1] for one in shown if one[0] == "fact"])

    def forget(self, count):
        """Forget all nodes but the first so many: for a call that raises, and told none of them."""
        for shown in self._shown[count:]:
            del self._numbers[shown]
        del self._shown[count:]

    def _several(self, word, nodes, neutral):
        if len(nodes) == 0:
            return neutral
        if len(nodes) == 1:
            return nodes[0]
        if len(nodes) > MOST_IN_ONE:
            raise TooLarge("there would be more than 2000 nodes in one")
        return self._node((word, tuple(sorted(nodes))))

    def _node(self, shown):
        if shown not in self._numbers:
            if self.count() == MOST_NODES:
                raise TooLarge("there would be more than 20000 nodes")
            self._numbers[shown] = self.count()
            self._shown.append(shown)
        return self._numbers[shown]


class Reckoner:
    """Worths in a semiring, made by the same methods as nodes are."""

    def __init__(self, semiring, worths):
        self._semiring = semiring
        self._worths = worths

    def fact(self, k):
        """Return the worth of a fact."""
        return self._worths[k]

    def plus(self, parts):
        """Return the sum of some worths."""
        if not parts:
            return self._semiring.zero()
        total = parts[0]
        for part in parts[1:]:
            total = self._semiring.plus(total, part)
        return total

    def times(self, parts):
        """Return the product of some worths."""
        if not parts:
            return self._semiring.one()
        total = parts[0]
        for part in parts[1:]:
            total = self._semiring.times(total, part)
        return total

    def star(self, part):
        """Return the star of a worth."""
        return self._semiring.star(part)


class Exchange:
    """Nodes of a store in which some facts are exchanged for nodes."""

    def __init__(self, circuits, nodes):
        self._circuits = circuits
        self._nodes = nodes

    def fact(self, k):
        """Return the node that stands for a fact."""
        if k in self._nodes:
            return self._nodes[k]
        return self._circuits.fact(k)

    def plus(self, parts):
        """Return the node of a sum."""
        return self._circuits.plus(parts)

    def times(self, parts):
        """Return the node of a product."""
        return self._circuits.times(parts)

    def star(self, part):
        """Return the node of a star."""
        return self._circuits.star(part)


class Leaves:
    """Numbers of facts in nodes that are written out in full."""

    def fact(self, k):
        """Return the leaves of a fact."""
        return 1

    def plus(self, parts):
        """Return the leaves of a sum."""
        return sum(parts)

    def times(self, parts):
        """Return the leaves of a product."""
        return sum(parts)

    def star(self, part):
        """Return the leaves of a star."""
        return part


def nodes_within(circuits, nodes):
    """Return some nodes and all nodes in them, ascending: each stands behind those in it."""
    found = {node: True for node in nodes}
    waiting = list(found)
    while waiting:
        node = waiting.pop()
        for part in _parts(circuits.shown(node)):
            if part not in found:
                found[part] = True
                waiting.append(part)
    return sorted(found)


def _parts(shown):
    if shown[0] == "star":
        return (shown[1],)
    if shown[0] in ("plus", "times"):
        return shown[1]
    return ()


def all_made(circuits, nodes, maker):
    """Return the dict from some nodes, and all in them, to what a maker makes of each.

    A maker has the methods fact, plus, times and star of the store of circuits.
    """
    made = {}
    # In this order, and not by recursion: nodes may lie thousands deep within one another.
    for node in nodes_within(circuits, nodes):
        made[node] = _made(circuits.shown(node), made, maker)
    return made


def _made(shown, made, maker):
    word = shown[0]
    if word == "fact":
        return maker.fact(shown[1])
    if word == "star":
        return maker.star(made[shown[1]])
    parts = [made[part] for part in _parts(shown)]
    if word in ("zero", "plus"):
        return maker.plus(parts)
    return maker.times(parts)


def worth(circuits, node, semiring, worths):
    """Return the worth of a node, told those of the facts in it."""
    return all_made(circuits, [node], Reckoner(semiring, worths))[node]


def put_in(circuits, node, nodes):
    """Return the node in which some facts are replaced by nodes."""
    return carried(circuits, node, circuits, nodes)


def carried(source, node, target, nodes):
    """Return the node of another store that is made as a node is, some facts being replaced."""
    before = target.count()
    try:
        return all_made(source, [node], Exchange(target, nodes))[node]
    except TooLarge:
        target.forget(before)
        raise


def leaves(circuits, node):
    """Return the number of facts in a node that is written out in full."""
    return all_made(circuits, [node], Leaves())[node]
