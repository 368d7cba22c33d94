"""Plain reckonings of queries, and queries made at random, that the tests of several files share.

Nothing here is fast, and nothing is taken from the files that it is held against.
"""

from everyworth.facts import Facts
from everyworth.finite import Finite

TABLES = [("edge", 2), ("node", 1), ("trio", 3)]
VALUES = [0, 1, "a"]


def value_key(value):
    return isinstance(value, str), value


def field(p):
    """The numbers up to the prime p: stars are 1 / (1 - a), and 1 has none."""
    rest = range(p)
    inverse = {a: next(b for b in rest if a * b % p == 1) for a in range(1, p)}
    stars = tuple(None if a == 1 else inverse[(1 - a) % p] for a in rest)
    return Finite(
        tuple(tuple((a + b) % p for b in rest) for a in rest),
        tuple(tuple(a * b % p for b in rest) for a in rest), 1, stars,
    )


def capped(top):
    """The numbers up to a top at which sums and products stop: all have a star."""
    rest = range(top + 1)
    return Finite(
        tuple(tuple(min(a + b, top) for b in rest) for a in rest),
        tuple(tuple(min(a * b, top) for b in rest) for a in rest), 1,
        tuple(1 if a == 0 else top for a in rest),
    )


def plus_into(semiring, found, row, one):
    found[row] = semiring.plus(found[row], one) if row in found else one


def plain_meaning(query, facts, views, semiring, worths, variables=None):
    """The meaning by the words of points 12 to 14, one row after the other."""
    variables = variables or {}

    def mean(q):
        return plain_meaning(q, facts, views, semiring, worths, variables)

    kind, found = query[0], {}
    if kind == "table":
        return {row: worths[k] for k, row in facts.rows(query[1])}
    if kind == "view":
        return plain_meaning(views[query[1]], facts, views, semiring, worths)
    if kind == "var":
        return dict(variables[query[1]])
    if kind == "row":
        return {query[1]: semiring.one()}
    if kind == "pick":
        return {row: w for row, w in mean(query[1]).items() if row[query[2]] == query[3]}
    if kind == "same":
        return {row: w for row, w in mean(query[1]).items() if row[query[2]] == row[query[3]]}
    if kind == "keep":
        for row, w in mean(query[1]).items():
            plus_into(semiring, found, tuple(row[c] for c in query[2]), w)
    if kind == "join":
        first, second = mean(query[1]), mean(query[2])
        for row, w in first.items():
            for other, v in second.items():
                if all(row[i] == other[j] for i, j in query[3]):
                    found[row + other] = semiring.times(w, v)
    if kind == "union":
        for part in query[1:]:
            for row, w in mean(part).items():
                plus_into(semiring, found, row, w)
    if kind == "repeat":
        _, name, base, step, n = query
        for _ in range(n):
            inside = {**variables, name: found}
            following = mean(base)
            further = plain_meaning(step, facts, views, semiring, worths, inside)
            for row, w in further.items():
                plus_into(semiring, following, row, w)
            found = following
    if kind == "paths":
        return plain_paths(mean(query[1]), semiring)
    return found


def plain_paths(rows, semiring):
    values = sorted({value for row in rows for value in row}, key=value_key)
    for c in values:
        star = semiring.star(rows[c, c]) if (c, c) in rows else semiring.one()
        following = dict(rows)
        for a in values:
            for b in values:
                if (a, c) in rows and (c, b) in rows:
                    part = semiring.times(semiring.times(rows[a, c], star), rows[c, b])
                    plus_into(semiring, following, (a, b), part)
        rows = following
    return rows


def plain_rows(query, facts, views, variables=None):
    """The rows of a query, as a set, and its work, as point 21 counts it (a variable has none)."""
    variables = variables or {}
    kind = query[0]
    if kind == "table":
        rows = {row for _, row in facts.rows(query[1])}
        return rows, len(rows)
    if kind == "view":
        rows = plain_rows(views[query[1]], facts, views)[0]
        return rows, len(rows)
    if kind == "var":
        return variables[query[1]], 0
    if kind == "row":
        return {query[1]}, 1
    if kind == "none":
        return set(), 0
    if kind == "repeat":
        return plain_rounds(query, facts, views, variables)
    parts = [plain_rows(q, facts, views, variables) for q in query[1:3] if is_query(q)]
    first, work = parts[0]
    if kind == "pick":
        rows = {row for row in first if row[query[2]] == query[3]}
        return rows, work + len(rows)
    if kind == "same":
        rows = {row for row in first if row[query[2]] == row[query[3]]}
        return rows, work + len(rows)
    if kind == "keep":
        return {tuple(row[c] for c in query[2]) for row in first}, work + len(first)
    if kind == "paths":
        return plain_reach(first, work)
    second, more = parts[1]
    if kind == "join":
        rows = {
            row + other for row in first for other in second
            if all(row[i] == other[j] for i, j in query[3])
        }
        return rows, work + more + len(rows)
    return first | second, work + more + len(first) + len(second)


def is_query(thing):
    return isinstance(thing, tuple) and len(thing) > 1 and isinstance(thing[0], str)


def plain_rounds(query, facts, views, variables):
    _, name, base, step, n = query
    rows, total = set(), 0
    for _ in range(n):
        first, work = plain_rows(base, facts, views, variables)
        second, more = plain_rows(step, facts, views, {**variables, name: rows})
        rows, total = first | second, total + work + more + len(first) + len(second)
    return rows, total


def plain_reach(rows, work):
    rows, work = set(rows), work + len(rows)
    for c in sorted({value for row in rows for value in row}, key=value_key):
        into, onward = [a for a, b in rows if b == c], [b for a, b in rows if a == c]
        work += len(into) * len(onward)
        rows |= {(a, b) for a in into for b in onward}
    return rows, work


def all_work(facts, views):
    """The work of all views together."""
    return sum(plain_rows(query, facts, views)[1] for query in views.values())


def only(facts, numbers):
    """A copy of a store in which just these facts are there."""
    twin = facts.copy()
    for k in range(twin.count()):
        if twin.is_there(k) and k not in numbers:
            twin.give_up(k)
        elif not twin.is_there(k) and k in numbers:
            twin.bring_back(k)
    return twin


def some_facts(chance, many, tables=TABLES, values=VALUES):
    """A store with at most so many facts, of which some are given up."""
    facts = Facts(tables)
    for _ in range(many):
        table, arity = chance.choice(tables[:1] * 3 + tables)
        row = tuple(chance.choice(values) for _ in range(arity))
        if facts.find(table, row) is None:
            facts.add(table, row)
    for k in range(facts.count()):
        if chance.randrange(6) == 0:
            facts.give_up(k)
    return facts


def some_columns(chance, many, width):
    return tuple(chance.randrange(width) for _ in range(many))


def some_leaf(chance, arity, names):
    """A query with no other query within it, or with one table."""
    if chance.randrange(30) == 0:
        return "none", arity
    if chance.randrange(10) == 0:
        return "row", tuple(chance.choice(VALUES) for _ in range(arity))
    if names:
        return chance.choice(names)
    table, width = chance.choice(TABLES)
    return "keep", ("table", table), some_columns(chance, arity, width)


def some_query(chance, arity, depth, views, variables=None):
    """A query of an arity, about so many queries within one another; views have arities."""
    variables = variables or {}
    names = [("table", name) for name, width in TABLES if width == arity]
    names += [("view", name) for name, width in views.items() if width == arity]
    names += [("var", name) for name, width in variables.items() if width == arity] * 3
    if depth <= 1:
        return some_leaf(chance, arity, names)

    def within(width, known=variables):
        return some_query(chance, width, depth - chance.randint(1, 2), views, known)

    kinds = ["keep", "union"] * 4 + ["repeat"] * 3 + ["join"] * 4
    kinds += ["pick", "same"] * (arity > 0) + ["paths"] * 4 * (arity == 2)
    kind = chance.choice(kinds)
    if kind == "pick":
        return "pick", within(arity), chance.randrange(arity), chance.choice(VALUES)
    if kind == "same":
        return "same", within(arity), chance.randrange(arity), chance.randrange(arity)
    if kind == "keep":
        width = chance.choice([1, 2, 2, 3])
        return "keep", within(width), some_columns(chance, arity, width)
    if kind == "join":
        width = chance.randint(min(arity, 1), arity)
        many = chance.choice([0, 1, 1, 2]) if 0 < width < arity else 0
        pairs = zip(some_columns(chance, many, width), some_columns(chance, many, arity - width))
        return "join", within(width), within(arity - width), tuple(pairs)
    if kind == "union":
        return "union", within(arity), within(arity)
    if kind == "paths":
        return "paths", within(2)
    name = chance.choice(["x", "y"])
    base, step = within(arity), within(arity, {**variables, name: arity})
    return "repeat", name, base, step, chance.choice([0, 1, 2, 2, 3, 3, 4])


def some_views(chance, many, depth, widest=3):
    """Views over views: the dict of their queries and the dict of their arities."""
    queries, arities = {}, {}
    for name in ["va", "vb", "vc", "vd", "ve"][:many]:
        arity = chance.randint(0, widest)
        queries[name] = some_query(chance, arity, depth, arities)
        arities[name] = arity
    return queries, arities
