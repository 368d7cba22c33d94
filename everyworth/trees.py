"""Trees: papers that tell one way in which a row comes, and their judge (point 24)."""

from everyworth.kinds import is_integer
from everyworth.meaning import columns_of, rows_by, rows_chosen
from everyworth.queries import arity_within, own_queries, view_arities, views_needed
from everyworth.values import is_row, is_value


def tree_of(facts, views, query, row, numbers):
    """Return a tree for the row in which only facts of a list occur, or None."""
    allowed = {number: True for number in numbers}
    known = {}
    for name in views_needed(query, views, False):
        known[name] = Grove(facts, known, allowed).trees(views[name], {})
    return Grove(facts, known, allowed).trees(query, {}).get(row)


def facts_used(facts, views, query, row, tree):
    """Return the facts of a tree for the row, ascending, or None if it is no such tree."""
    judge = Judge(facts, views, query)
    used = {}
    # Not by recursion: a tree may be as deep as a path is long.
    claims = [(query, {}, row, tree)]
    while claims:
        claim = claims.pop()
        if claim[0][0] == "table":
            if not judge.is_fact(claim):
                return None
            used[claim[3][1]] = True
        else:
            further = judge.further(claim)
            if further is None:
                return None
            claims.extend(further)
    return tuple(sorted(used))


class Grove:
    """Grows a tree for each row of a query, over views whose trees are known already."""

    def __init__(self, facts, known, allowed):
        self._facts = facts
        self._known = known
        self._allowed = allowed

    def trees(self, query, variables):
        """Return the dict from the rows of a query to a tree of each."""
        kind = query[0]
        if kind == "table":
            pairs = self._facts.rows(query[1])
            return {row: ("fact", k) for k, row in pairs if k in self._allowed}
        if kind == "view":
            return _under("view", self._known[query[1]])
        if kind == "var":
            return _under("round", variables[query[1]])
        if kind == "row":
            return {query[1]: ("given",)}
        if kind == "none":
            return {}
        if kind == "repeat":
            return self._repeated(query, variables)
        parts = [self.trees(part, variables) for part in own_queries(query)]
        rule = GROWN[kind]
        return rule(query, parts)

    def _repeated(self, query, variables):
        _, name, base, step, rounds = query
        found = {}
        start = _under("base", self.trees(base, variables)) if rounds > 0 else {}
        # A tree of some rounds is one of more rounds, too: so a row that has one keeps it.
        for _ in range(rounds):
            further = _under("step", self.trees(step, {**variables, name: found}))
            following = {**further, **start, **found}
            if len(following) == len(found):
                break
            found = following
        return found


def _under(word, trees):
    return {row: (word, tree) for row, tree in trees.items()}


def _grown_chosen(query, parts):
    trees = parts[0]
    return {row: ("pass", trees[row]) for row in rows_chosen(query, trees)}


def _grown_kept(query, parts):
    found = {}
    for row, tree in parts[0].items():
        found.setdefault(columns_of(row, query[2]), ("from", row, tree))
    return found


def _grown_joined(query, parts):
    first, second = parts
    others = rows_by(second, [j for i, j in query[3]])
    places = [i for i, j in query[3]]
    found = {}
    for row in first:
        for other in others.get(columns_of(row, places), []):
            found[row + other] = ("both", first[row], second[other])
    return found


def _grown_united(query, parts):
    left, right = _under("left", parts[0]), _under("right", parts[1])
    return {**right, **left}


def _grown_linked(query, parts):
    """Return the trees of paths, each of the fewest rows."""
    edges = parts[0]
    found = _under("edge", edges)
    before = {}
    for a, c in edges:
        before.setdefault(c, []).append(a)
    waiting = list(found)
    place = 0
    while place < len(waiting):
        c, b = waiting[place]
        for a in before.get(c, []):
            if (a, b) not in found:
                found[(a, b)] = ("path", c, edges[(a, c)], found[(c, b)])
                waiting.append((a, b))
        place += 1
    return found


GROWN = {
    "pick": _grown_chosen, "same": _grown_chosen, "keep": _grown_kept, "join": _grown_joined,
    "union": _grown_united, "paths": _grown_linked,
}


class Judge:
    """Takes claims apart into the claims that are left of them.

    A claim is a query, its scope, a row and a tree that is to show that the query has the row.
    The scope has for each variable the recursion for which it stands (a repeat with the rounds
    that are left), the scope of that recursion, and its arity.
    """

    def __init__(self, facts, views, query):
        self._facts = facts
        self._views = views
        self._tables = dict(facts.tables())
        self._arities = view_arities(query, self._tables, views)

    def is_fact(self, claim):
        """Tell whether a claim of a table holds."""
        query, _, row, tree = claim
        if not _has_form(tree, "fact", 2) or not is_integer(tree[1]):
            return False
        if not 0 <= tree[1] < self._facts.count() or not self._facts.is_there(tree[1]):
            return False
        return self._facts.fact(tree[1]) == (query[1], row)

    def further(self, claim):
        """Return the claims that are left of a claim, or None if it does not hold."""
        query, scope, row, tree = claim
        kind = query[0]
        if kind == "view":
            return [(self._views[query[1]], {}, row, tree[1])] if _has_form(tree, "view", 2) else None
        if kind == "repeat":
            return self._repeated(claim)
        if kind == "join":
            return self._joined(claim)
        rule = JUDGED[kind]
        return rule(query, scope, row, tree)

    def _repeated(self, claim):
        (_, name, base, step, rounds), scope, row, tree = claim
        if rounds == 0:
            return None
        if _has_form(tree, "base", 2):
            return [(base, scope, row, tree[1])]
        if not _has_form(tree, "step", 2):
            return None
        before = ("repeat", name, base, step, rounds - 1)
        entry = (before, scope, self._arity(base, scope))
        return [(step, {**scope, name: entry}, row, tree[1])]

    def _joined(self, claim):
        (_, first, second, pairs), scope, row, tree = claim
        if not _has_form(tree, "both", 3):
            return None
        width = self._arity(first, scope)
        left, right = row[:width], row[width:]
        if not _reaches(left, [i for i, j in pairs]) or not _reaches(right, [j for i, j in pairs]):
            return None
        if not all(left[i] == right[j] for i, j in pairs):
            return None
        return [(first, scope, left, tree[1]), (second, scope, right, tree[2])]

    def _arity(self, query, scope):
        variables = {name: scope[name][2] for name in scope}
        return arity_within(query, self._tables, self._arities, variables)


def _has_form(tree, word, length):
    return isinstance(tree, tuple) and len(tree) == length and tree[0] == word


def _reaches(row, columns):
    """Tell whether a row, which may have any length, has all of some columns."""
    return all(column < len(row) for column in columns)


def _judged_round(query, scope, row, tree):
    recursion, outside, _ = scope[query[1]]
    return [(recursion, outside, row, tree[1])] if _has_form(tree, "round", 2) else None


def _judged_given(query, scope, row, tree):
    return [] if tree == ("given",) and row == query[1] else None


def _judged_never(query, scope, row, tree):
    return None


def _judged_pick(query, scope, row, tree):
    return _judged_chosen(query, scope, row, tree, [query[2]])


def _judged_same(query, scope, row, tree):
    return _judged_chosen(query, scope, row, tree, [query[2], query[3]])


def _judged_chosen(query, scope, row, tree, columns):
    if not _has_form(tree, "pass", 2) or not _reaches(row, columns):
        return None
    return [(query[1], scope, row, tree[1])] if rows_chosen(query, [row]) else None


def _judged_keep(query, scope, row, tree):
    if not _has_form(tree, "from", 3) or not is_row(tree[1]):
        return None
    if not _reaches(tree[1], query[2]) or columns_of(tree[1], query[2]) != row:
        return None
    return [(query[1], scope, tree[1], tree[2])]


def _judged_union(query, scope, row, tree):
    if _has_form(tree, "left", 2):
        return [(query[1], scope, row, tree[1])]
    if _has_form(tree, "right", 2):
        return [(query[2], scope, row, tree[1])]
    return None


def _judged_paths(query, scope, row, tree):
    if len(row) != 2:
        return None
    if _has_form(tree, "edge", 2):
        return [(query[1], scope, row, tree[1])]
    if not _has_form(tree, "path", 4) or not is_value(tree[1]):
        return None
    _, value, first, rest = tree
    return [(query[1], scope, (row[0], value), first), (query, scope, (value, row[1]), rest)]


JUDGED = {
    "var": _judged_round, "row": _judged_given, "none": _judged_never, "pick": _judged_pick,
    "same": _judged_same, "keep": _judged_keep, "union": _judged_union, "paths": _judged_paths,
}
