"""What queries mean: a dict from rows to worths (points 12 to 14)."""

from everyworth.circuits import Reckoner
from everyworth.queries import own_queries, views_needed
from everyworth.values import in_order


def meaning(query, facts, views, semiring, worths):
    """Return the dict from the rows of a query to their worths in a semiring."""
    return rows_made(query, facts, views, Reckoner(semiring, worths))


def rows_made(query, facts, views, maker):
    """Return the dict from the rows of a query to what a maker makes of them.

    A maker has the methods fact, plus, times and star of the store of circuits.
    """
    known = {}
    # Each view once, and not by recursion: a view may lie behind many others.
    for name in views_needed(query, views, False):
        known[name] = Evaluation(facts, known, maker).rows(views[name], {})
    return Evaluation(facts, known, maker).rows(query, {})


class Evaluation:
    """Evaluates queries over facts, and over views of which the rows are known already."""

    def __init__(self, facts, known, maker):
        self._facts = facts
        self._known = known
        self._maker = maker

    def rows(self, query, variables):
        """Return the dict from the rows of a query to their worths; variables have such dicts."""
        kind = query[0]
        if kind == "table":
            return {row: self._maker.fact(k) for k, row in self._facts.rows(query[1])}
        if kind == "view":
            return self._known[query[1]]
        if kind == "var":
            return variables[query[1]]
        if kind == "row":
            return {query[1]: self._maker.times([])}
        if kind == "none":
            return {}
        if kind == "repeat":
            return self._repeated(query, variables)
        parts = [self.rows(part, variables) for part in own_queries(query)]
        rule = RULES[kind]
        return rule(self._maker, query, parts)

    def _repeated(self, query, variables):
        _, name, base, step, rounds = query
        found = {}
        # Without any round the base means nothing either, and may lack a star.
        start = self.rows(base, variables) if rounds > 0 else {}
        for _ in range(rounds):
            further = self.rows(step, {**variables, name: found})
            following = _united(self._maker, query, [start, further])
            if following == found:
                break
            found = following
        return found


def _chosen(maker, query, parts):
    rows = parts[0]
    return {row: rows[row] for row in rows_chosen(query, rows)}


def _kept(maker, query, parts):
    worths = {}
    for row, one in parts[0].items():
        worths.setdefault(columns_of(row, query[2]), []).append(one)
    return {row: maker.plus(worths[row]) for row in worths}


def _joined(maker, query, parts):
    first, second = parts
    others = rows_by(second, [j for i, j in query[3]])
    places = [i for i, j in query[3]]
    joined = {}
    for row in first:
        for other in others.get(columns_of(row, places), []):
            joined[row + other] = maker.times([first[row], second[other]])
    return joined


def _united(maker, query, parts):
    first, second = parts
    united = {row: first[row] for row in first}
    for row, one in second.items():
        united[row] = maker.plus([first[row], one]) if row in first else one
    return united


def _linked(maker, query, parts):
    """Return the rows of paths, by one round for each value."""
    links = {}
    for row, one in parts[0].items():
        links.setdefault(row[0], {})[row[1]] = one
    values = [(value,) for row in parts[0] for value in row]
    for single in in_order(values):
        _lead_through(maker, links, single[0])
    return {(a, b): links[a][b] for a in links for b in links[a]}


def _lead_through(maker, links, c):
    """Replace each A(a, b) by A(a, b) + A(a, c) A(c, c)* A(c, b), all at once.

    A star s of w is 1 + w s. So A(c, b) + A(c, c) s A(c, b) is s A(c, b), and A(a, c) likewise
    becomes A(a, c) s: this takes fewer nodes, and all others may take the new A(c, b).
    """
    stars = [maker.star(links[c][c])] if c in links and c in links[c] else []
    onward = {b: maker.times(stars + [one]) for b, one in links.get(c, {}).items()}
    before = [a for a in links if c in links[a] and a != c]
    for a in before:
        into = links[a][c]
        for b, one in onward.items():
            if b != c:
                _add_link(maker, links[a], b, maker.times([into, one]))
        links[a][c] = maker.times([into] + stars)
    links[c] = onward


def _add_link(maker, worths, b, one):
    worths[b] = maker.plus([worths[b], one]) if b in worths else one


RULES = {
    "pick": _chosen, "same": _chosen, "keep": _kept, "join": _joined, "union": _united,
    "paths": _linked,
}


def rows_chosen(query, rows):
    """Return those of some rows that a pick or a same leaves."""
    column = query[2]
    if query[0] == "pick":
        return [row for row in rows if row[column] == query[3]]
    return [row for row in rows if row[column] == row[query[3]]]


def columns_of(row, columns):
    """Return the values of a row in some columns, in their order."""
    return tuple([row[column] for column in columns])


def rows_by(rows, columns):
    """Return the dict from values in some columns to the rows that have them."""
    found = {}
    for row in rows:
        found.setdefault(columns_of(row, columns), []).append(row)
    return found
