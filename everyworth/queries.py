"""Queries: their form, their arity and the names in them (points 10 and 11)."""

from everyworth.errors import QueryError
from everyworth.kinds import is_between, is_integer, is_pair
from everyworth.values import LONGEST_ROW, is_name, is_row, is_value

MOST_DEEP = 12
MOST_ROUNDS = 8

# How many parts the tuple of each kind of query has, its own word being one of them.
LENGTHS = {
    "table": 2, "view": 2, "var": 2, "row": 2, "none": 2, "pick": 4, "same": 4, "keep": 3,
    "join": 4, "union": 3, "repeat": 5, "paths": 2,
}
# Where the own queries stand in the tuple of each kind that has some.
PLACES = {
    "pick": (1,), "same": (1,), "keep": (1,), "join": (1, 2), "union": (1, 2), "repeat": (2, 3),
    "paths": (1,),
}
# The code that tells of each kind of name that it is not known.
CODES = {"table": "table", "view": "view", "var": "variable"}


def own_queries(query):
    """Return the queries directly within a query, from left to right."""
    return [query[place] for place in PLACES.get(query[0], ())]


def arity_of(query, tables, views):
    """Return the arity of a query without free variables, or raise QueryError."""
    return arity_within(query, tables, views, {})


def arity_within(query, tables, views, variables):
    """Return the arity of a query whose free variables have the told arities."""
    return _arity(query, {"table": tables, "view": views, "var": variables}, 1)


def names_in(query, kind):
    """Return the names of the table or view queries within a query, ascending, each once."""
    return _names(query, kind, True)


def views_needed(query, views, idle):
    """Return the views from which a query comes, each one behind those that it needs itself.

    The queries of a repeat of no rounds mean nothing: they count only if `idle` is True.
    """
    done = {}
    waiting = _names(query, "view", idle)
    while waiting:
        needed = [name for name in _names(views[waiting[-1]], "view", idle) if name not in done]
        if needed:
            waiting.extend(needed)
        else:
            done[waiting.pop()] = True
    return list(done)


def view_arities(query, tables, views):
    """Return the arities of the views from which a query comes, told those of the tables."""
    arities = {}
    for name in views_needed(query, views, True):
        arities[name] = arity_of(views[name], tables, arities)
    return arities


def _names(query, kind, idle):
    found = {}
    waiting = [query]
    while waiting:
        part = waiting.pop()
        if part[0] == kind:
            found[part[1]] = True
        if idle or part[0] != "repeat" or part[4] > 0:
            waiting.extend(own_queries(part))
    return sorted(found)


def _arity(query, known, depth):
    """Return the arity; `known` has the arities by name for each kind of name."""
    if not _is_formed(query):
        raise QueryError("form")
    if depth > MOST_DEEP:
        raise QueryError("deep")
    kind = query[0]
    if kind in CODES:
        return _arity_of_name(query, known)
    if kind == "row":
        return len(query[1])
    if kind == "none":
        return query[1]
    if kind == "repeat":
        return _arity_of_repeat(query, known, depth)
    arities = [_arity(part, known, depth + 1) for part in own_queries(query)]
    rule = ARITIES[kind]
    return rule(query, arities)


def _arity_of_name(query, known):
    kind, name = query
    if name not in known[kind]:
        raise QueryError(CODES[kind])
    return known[kind][name]


def _arity_of_repeat(query, known, depth):
    _, name, base, step, _ = query
    arity = _arity(base, known, depth + 1)
    outside = known["var"]
    inside = {**outside, name: arity}
    _need_equal(_arity(step, {**known, "var": inside}, depth + 1), arity)
    return arity


def _arity_of_pick(query, arities):
    _need_column(query[2], arities[0])
    return arities[0]


def _arity_of_same(query, arities):
    _need_column(query[2], arities[0])
    _need_column(query[3], arities[0])
    return arities[0]


def _arity_of_keep(query, arities):
    for column in query[2]:
        _need_column(column, arities[0])
    return _narrow(len(query[2]))


def _arity_of_join(query, arities):
    for i, j in query[3]:
        _need_column(i, arities[0])
        _need_column(j, arities[1])
    return _narrow(arities[0] + arities[1])


def _arity_of_union(query, arities):
    _need_equal(arities[0], arities[1])
    return arities[0]


def _arity_of_paths(query, arities):
    _need_equal(arities[0], 2)
    return 2


ARITIES = {
    "pick": _arity_of_pick, "same": _arity_of_same, "keep": _arity_of_keep,
    "join": _arity_of_join, "union": _arity_of_union, "paths": _arity_of_paths,
}


def _need_column(column, arity):
    if not 0 <= column < arity:
        raise QueryError("column")


def _need_equal(arity, other):
    if arity != other:
        raise QueryError("arity")


def _narrow(arity):
    if arity > LONGEST_ROW:
        raise QueryError("arity")
    return arity


def _is_formed(query):
    """Tell whether a thing has the form of a query; the queries within it are not looked at."""
    if not isinstance(query, tuple) or len(query) == 0 or not isinstance(query[0], str):
        return False
    kind = query[0]
    if kind not in LENGTHS or len(query) != LENGTHS[kind]:
        return False
    has_form = FORMS[kind]
    return has_form(query)


def _has_name(query):
    return is_name(query[1])


def _has_row(query):
    return is_row(query[1])


def _has_arity(query):
    return is_between(query[1], 0, LONGEST_ROW)


def _has_column_and_value(query):
    return is_integer(query[2]) and is_value(query[3])


def _has_two_columns(query):
    return is_integer(query[2]) and is_integer(query[3])


def _has_columns(query):
    return isinstance(query[2], tuple) and all(is_integer(column) for column in query[2])


def _has_pairs(query):
    return isinstance(query[3], tuple) and all(_is_pair_of_columns(pair) for pair in query[3])


def _is_pair_of_columns(thing):
    return is_pair(thing) and is_integer(thing[0]) and is_integer(thing[1])


def _has_name_and_rounds(query):
    return is_name(query[1]) and is_between(query[4], 0, MOST_ROUNDS)


def _has_queries_only(query):
    return True


FORMS = {
    "table": _has_name, "view": _has_name, "var": _has_name, "row": _has_row, "none": _has_arity,
    "pick": _has_column_and_value, "same": _has_two_columns, "keep": _has_columns,
    "join": _has_pairs, "union": _has_queries_only, "repeat": _has_name_and_rounds,
    "paths": _has_queries_only,
}
