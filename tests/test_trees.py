import random
import unittest

from everyworth.facts import Facts
from everyworth.queries import arity_within
from everyworth.trees import facts_used, tree_of

from tests.plain import TABLES, VALUES, only, plain_rows, some_facts, some_query, some_views

EDGE, NODE = ("table", "edge"), ("table", "node")
X = ("var", "x")
STEP = ("keep", ("join", X, EDGE, ((1, 0),)), (0, 3))


def store(edges=(), nodes=()):
    facts = Facts(TABLES)
    for row in edges:
        facts.add("edge", row)
    for value in nodes:
        facts.add("node", (value,))
    return facts


def there_in(facts):
    return [k for k in range(facts.count()) if facts.is_there(k)]


def judged(facts, views, query, row, tree, scope=None):
    """The facts of a tree by the words of point 24, as a set, or None: a plain judge.

    A scope tells for each variable the recursion, its own scope and its arity.
    """
    scope = scope or {}
    if not isinstance(tree, tuple) or not tree or not isinstance(tree[0], str):
        return None

    def below(q, r, t, inside=scope):
        return judged(facts, views, q, r, t, inside)

    def both(first, second):
        return None if first is None or second is None else first | second

    kind, shape = query[0], (query[0], tree[0], len(tree))
    if shape == ("table", "fact", 2):
        k = tree[1]
        fine = isinstance(k, int) and 0 <= k < facts.count() and facts.is_there(k)
        return {k} if fine and facts.fact(k) == (query[1], row) else None
    if shape == ("row", "given", 1):
        return set() if row == query[1] else None
    if shape == ("view", "view", 2):
        return below(views[query[1]], row, tree[1], {})
    if shape == ("pick", "pass", 2):
        fine = query[2] < len(row) and row[query[2]] == query[3]
        return below(query[1], row, tree[1]) if fine else None
    if shape == ("same", "pass", 2):
        fine = max(query[2:]) < len(row) and row[query[2]] == row[query[3]]
        return below(query[1], row, tree[1]) if fine else None
    if shape == ("keep", "from", 3):
        other = tree[1]
        fine = isinstance(other, tuple) and all(c < len(other) for c in query[2])
        fine = fine and tuple(other[c] for c in query[2]) == row
        return below(query[1], other, tree[2]) if fine else None
    if shape == ("join", "both", 3):
        width = width_of(query[1], facts, views, scope)
        left, right = row[:width], row[width:]
        fine = all(i < len(left) and j < len(right) and left[i] == right[j] for i, j in query[3])
        if not fine:
            return None
        return both(below(query[1], left, tree[1]), below(query[2], right, tree[2]))
    if shape in (("union", "left", 2), ("union", "right", 2)):
        return below(query[1 if tree[0] == "left" else 2], row, tree[1])
    if kind == "repeat" and query[4] > 0 and len(tree) == 2:
        _, name, base, step, n = query
        if tree[0] == "base":
            return below(base, row, tree[1])
        if tree[0] == "step":
            entry = ("repeat", name, base, step, n - 1), scope, width_of(base, facts, views, scope)
            return below(step, row, tree[1], {**scope, name: entry})
    if shape == ("var", "round", 2):
        recursion, outside, _ = scope[query[1]]
        return below(recursion, row, tree[1], outside)
    if shape == ("paths", "edge", 2):
        return below(query[1], row, tree[1])
    if shape == ("paths", "path", 4) and len(row) == 2:
        first = below(query[1], (row[0], tree[1]), tree[2])
        return both(first, below(query, (tree[1], row[1]), tree[3]))
    return None


def width_of(query, facts, views, scope):
    arities = {}
    while len(arities) < len(views):
        for name, other in views.items():
            try:
                arities[name] = arity_within(other, dict(facts.tables()), arities, {})
            except Exception:
                continue
    variables = {name: entry[2] for name, entry in scope.items()}
    return arity_within(query, dict(facts.tables()), arities, variables)


def places_in(tree):
    """The tree and all that stands in it, each with a way to put something else there."""
    yield tree, lambda other: other
    if isinstance(tree, tuple):
        for k, part in enumerate(tree):
            for inner, put in places_in(part):
                yield inner, (lambda other, k=k, put=put: tree[:k] + (put(other),) + tree[k + 1:])


def changed_trees(tree):
    """Trees with one place changed, cut off, doubled or exchanged."""
    words = ["fact", "given", "view", "pass", "from", "both", "left", "right", "base", "step",
             "round", "edge", "path", "a", ""]
    parts = list(places_in(tree))
    for part, put in parts:
        others = [(), 0, 1, 2, -1, 99, "a", (part,), ("fact", 0), ("given",)]
        if isinstance(part, str):
            others += words
        if isinstance(part, int):
            others += [part + 1, part - 1]
        if isinstance(part, tuple):
            others += [part[:-1], part[1:], part + (0,), part + part[-1:], tuple(reversed(part))]
            others += list(part) + ["".join(map(str, part))]
            others += [other for other, _ in parts if isinstance(other, tuple)]
        for other in others:
            if other != part:
                yield put(other)


class TreeCase(unittest.TestCase):
    def check(self, query, facts, views=None):
        """Check a tree of each row, and that there is none for other rows."""
        views = views or {}
        there = there_in(facts)
        rows = plain_rows(query, facts, views)[0]
        for row in rows:
            tree = tree_of(facts, views, query, row, there)
            self.assert_tree(tree, query, facts, views, row)
        for row in [(), (9,), (9, 9), (1, 2, 3, 4), ("a", "a"), (2, 1)]:
            if row not in rows:
                self.assertIsNone(tree_of(facts, views, query, row, there))
        return {row: tree_of(facts, views, query, row, there) for row in rows}

    def assert_tree(self, tree, query, facts, views, row):
        self.assertIs(type(tree), tuple)
        used = facts_used(facts, views, query, row, tree)
        self.assertIs(type(used), tuple, (query, row, tree))
        self.assertEqual(list(used), sorted(judged(facts, views, query, row, tree)))
        # The facts of a tree are a why.
        self.assertIn(row, plain_rows(query, only(facts, used), views)[0])
        return used


class KindsTest(TreeCase):
    def setUp(self):
        self.facts = store([(1, 2), (2, 2), (2, "a"), (1, "a"), ("a", 1)], [2, "a", 7])
        self.facts.give_up(3)

    def test_table(self):
        self.assertEqual(self.check(NODE, self.facts), {
            (2,): ("fact", 5), ("a",): ("fact", 6), (7,): ("fact", 7),
        })
        self.check(EDGE, self.facts)

    def test_row_and_none(self):
        self.assertEqual(self.check(("row", (1, "b")), self.facts), {(1, "b"): ("given",)})
        self.assertEqual(self.check(("row", ()), self.facts), {(): ("given",)})
        self.assertEqual(self.check(("none", 2), self.facts), {})

    def test_pick_same_and_keep(self):
        self.assertEqual(self.check(("pick", EDGE, 0, 1), self.facts), {
            (1, 2): ("pass", ("fact", 0)),
        })
        self.assertEqual(self.check(("same", EDGE, 0, 1), self.facts), {
            (2, 2): ("pass", ("fact", 1)),
        })
        trees = self.check(("keep", EDGE, (0,)), self.facts)
        self.assertEqual(trees[("a",)], ("from", ("a", 1), ("fact", 4)))
        self.assertIn(trees[(2,)], [("from", (2, 2), ("fact", 1)), ("from", (2, "a"), ("fact", 2))])
        self.check(("keep", EDGE, ()), self.facts)
        self.check(("keep", EDGE, (1, 1, 0)), self.facts)

    def test_join_and_union(self):
        trees = self.check(("join", EDGE, NODE, ((1, 0),)), self.facts)
        self.assertEqual(trees[(1, 2, 2)], ("both", ("fact", 0), ("fact", 5)))
        self.assertEqual(trees[(2, "a", "a")], ("both", ("fact", 2), ("fact", 6)))
        trees = self.check(("union", NODE, ("keep", EDGE, (0,))), self.facts)
        self.assertEqual(trees[(7,)], ("left", ("fact", 7)))
        self.assertEqual(trees[(1,)], ("right", ("from", (1, 2), ("fact", 0))))
        self.check(("union", ("row", (2,)), NODE), self.facts)
        self.check(("join", NODE, ("join", NODE, ("row", ()), ()), ()), self.facts)

    def test_views(self):
        views = {"two": ("keep", ("join", EDGE, EDGE, ((1, 0),)), (0, 3)),
                 "all": ("union", ("view", "two"), EDGE), "e": EDGE}
        self.assertEqual(self.check(("view", "e"), self.facts, views)[(1, 2)], ("view", ("fact", 0)))
        self.check(("view", "all"), self.facts, views)
        self.check(("join", ("view", "two"), ("view", "all"), ((1, 0),)), self.facts, views)

    def test_repeat(self):
        self.assertEqual(self.check(("repeat", "x", NODE, X, 0), self.facts), {})
        self.assertEqual(self.check(("repeat", "x", NODE, X, 1), self.facts)[(7,)],
                         ("base", ("fact", 7)))
        for n in range(5):
            self.check(("repeat", "x", EDGE, STEP, n), self.facts)
        step = ("union", ("pick", X, 0, 1), ("row", (5, 5)))
        trees = self.check(("repeat", "x", ("none", 2), step, 1), self.facts)
        self.assertEqual(trees, {(5, 5): ("step", ("right", ("given",)))})
        chain = ("repeat", "x", ("pick", EDGE, 0, 1), STEP, 3)
        tree = self.check(chain, self.facts)[(1, "a")]
        inner = ("both", ("round", ("base", ("pass", ("fact", 0)))), ("fact", 2))
        self.assertEqual(tree, ("step", ("from", (1, 2, 2, "a"), inner)))

    def test_nested_repeats(self):
        inner = ("repeat", "x", X, ("union", X, ("keep", ("join", X, EDGE, ((0, 0),)), (1, 3))), 2)
        self.check(("repeat", "x", EDGE, inner, 3), self.facts)
        inner = ("repeat", "y", X, ("join", ("keep", ("var", "y"), (1,)), ("keep", X, (0,)), ()), 2)
        self.check(("repeat", "x", EDGE, inner, 3), self.facts)

    def test_paths(self):
        trees = self.check(("paths", EDGE), self.facts)
        self.assertEqual(trees[(1, 2)], ("edge", ("fact", 0)))
        self.assertEqual(trees[(1, "a")], ("path", 2, ("fact", 0), ("edge", ("fact", 2))))
        self.check(("paths", ("paths", EDGE)), self.facts)
        self.check(("paths", ("union", ("row", (1, 1)), EDGE)), self.facts)

    def test_listed_facts_alone(self):
        facts = store([(1, 2), (2, 3), (1, 3), (3, 1)])
        query = ("paths", EDGE)
        self.assertEqual(tree_of(facts, {}, query, (1, 3), [2]), ("edge", ("fact", 2)))
        tree = tree_of(facts, {}, query, (1, 3), [0, 1, 3])
        self.assertEqual(tree, ("path", 2, ("fact", 0), ("edge", ("fact", 1))))
        self.assertIsNone(tree_of(facts, {}, query, (1, 3), [0]))
        self.assertIsNone(tree_of(facts, {}, query, (1, 3), []))
        self.assertIsNone(tree_of(facts, {}, query, (2, 2), [0, 1]))
        self.assertIsNotNone(tree_of(facts, {}, query, (2, 2), [3, 0, 1, 1]))
        self.assertEqual(tree_of(facts, {}, ("row", (1,)), (1,), []), ("given",))

    def test_what_is_passed_is_not_changed(self):
        views, numbers = {"v": EDGE}, [0, 1, 2]
        tree_of(self.facts, views, ("paths", ("view", "v")), (1, "a"), numbers)
        self.assertEqual((views, numbers, self.facts.count()), ({"v": EDGE}, [0, 1, 2], 8))


class JudgeTest(TreeCase):
    def refuse(self, facts, query, row, tree, views=None):
        self.assertIsNone(judged(facts, views or {}, query, row, tree))
        self.assertIsNone(facts_used(facts, views or {}, query, row, tree), (query, row, tree))

    def test_facts_that_do_not_fit(self):
        facts = store([(1, 2), (2, 3)], [1])
        facts.give_up(1)
        self.assertEqual(facts_used(facts, {}, EDGE, (1, 2), ("fact", 0)), (0,))
        for tree in (("fact", 1), ("fact", 2), ("fact", 3), ("fact", -1), ("fact", -3), ("fact", "0"),
                     ("fact", ()), ("fact", (0,)), ("fact", 10 ** 20), ("fact",), ("fact", 0, 0), (),
                     ("given",), ("FACT", 0), (0, "fact"), (("fact", 0),), ("edge", ("fact", 0))):
            self.refuse(facts, EDGE, (1, 2), tree)
        self.refuse(facts, EDGE, (2, 3), ("fact", 1))
        self.refuse(facts, NODE, (1, 2), ("fact", 0))
        self.refuse(facts, NODE, (2,), ("fact", 2))
        self.refuse(facts, EDGE, (1,), ("fact", 0))
        self.refuse(facts, ("none", 2), (1, 2), ("fact", 0))
        self.refuse(facts, ("none", 0), (), ("given",))

    def test_rows_that_do_not_fit(self):
        # The tree within is fine each time; the row has not what the query asks of it.
        facts = store([(1, 2), (2, 2), (2, 3)], [1, 2, 7])
        for query, row, tree in (
            (("pick", EDGE, 0, 2), (1, 2), ("pass", ("fact", 0))),
            (("pick", EDGE, 1, 2), (2, 3), ("pass", ("fact", 2))),
            (("pick", EDGE, 0, "1"), (1, 2), ("pass", ("fact", 0))),
            (("same", EDGE, 0, 1), (1, 2), ("pass", ("fact", 0))),
            (("same", EDGE, 1, 0), (2, 3), ("pass", ("fact", 2))),
            (("join", EDGE, NODE, ((1, 0),)), (1, 2, 7), ("both", ("fact", 0), ("fact", 5))),
            (("join", EDGE, NODE, ((0, 0),)), (1, 2, 2), ("both", ("fact", 0), ("fact", 4))),
            (("join", EDGE, EDGE, ((1, 0), (0, 1))), (1, 2, 2, 3),
             ("both", ("fact", 0), ("fact", 2))),
            (("join", NODE, NODE, ((0, 0),)), (1, 2), ("both", ("fact", 3), ("fact", 4))),
            (("keep", EDGE, (0,)), (2,), ("from", (1, 2), ("fact", 0))),
            (("keep", EDGE, (1, 0)), (1, 2), ("from", (1, 2), ("fact", 0))),
            (("paths", EDGE), (1, 3), ("path", 1, ("fact", 0), ("edge", ("fact", 2)))),
            (("paths", EDGE), (1, 3), ("path", 2, ("fact", 1), ("edge", ("fact", 2)))),
            (("paths", EDGE), (1, 3), ("path", 2, ("edge", ("fact", 0)), ("edge", ("fact", 2)))),
            (("paths", EDGE), (1, 3), ("path", 2, ("fact", 0), ("fact", 2))),
            (("union", EDGE, ("none", 2)), (1, 2), ("right", ("fact", 0))),
            (("union", ("none", 2), EDGE), (1, 2), ("left", ("fact", 0))),
        ):
            self.refuse(facts, query, row, tree)
        for query, row, tree, used in (
            (("pick", EDGE, 0, 2), (2, 3), ("pass", ("fact", 2)), (2,)),
            (("same", EDGE, 1, 0), (2, 2), ("pass", ("fact", 1)), (1,)),
            (("join", EDGE, NODE, ((1, 0),)), (1, 2, 2), ("both", ("fact", 0), ("fact", 4)), (0, 4)),
            (("join", EDGE, NODE, ()), (1, 2, 7), ("both", ("fact", 0), ("fact", 5)), (0, 5)),
            # A way that goes round is a tree as well.
            (("paths", EDGE), (1, 3), ("path", 2, ("fact", 0), ("path", 2, ("fact", 1), (
                "path", 2, ("fact", 1), ("edge", ("fact", 2))))), (0, 1, 2)),
        ):
            self.assertEqual(facts_used(facts, {}, query, row, tree), used)

    def test_rounds_are_counted(self):
        facts = store([(1, 2), (2, 3), (3, 4)])
        tree = tree_of(facts, {}, ("repeat", "x", EDGE, STEP, 3), (1, 4), [0, 1, 2])
        for n in range(9):
            query = ("repeat", "x", EDGE, STEP, n)
            used = facts_used(facts, {}, query, (1, 4), tree)
            self.assertEqual(used, (0, 1, 2) if n > 2 else None)
        self.refuse(facts, ("repeat", "x", EDGE, EDGE, 0), (1, 2), ("base", ("fact", 0)))
        self.refuse(facts, ("repeat", "x", EDGE, X, 1), (1, 2), ("step", ("round", ("base", ("fact", 0)))))

    def test_inner_and_outer_recursion(self):
        facts = store([(1, 2)], [1, 2])
        # In the step of the inner x the variable is the inner one.
        inner = ("repeat", "x", ("keep", X, (1,)), ("keep", X, (0,)), 2)
        query = ("repeat", "x", EDGE, ("join", inner, inner, ()), 2)
        first = ("base", ("from", (1, 2), ("round", ("base", ("fact", 0)))))
        second = ("step", ("from", (2,), ("round", first)))
        good = ("step", ("both", first, second))
        self.assertEqual(facts_used(facts, {}, query, (2, 2), good), (0,))
        bad = ("step", ("from", (1, 2), ("round", ("base", ("fact", 0)))))
        self.refuse(facts, query, (2, 2), ("step", ("both", first, bad)))
        self.refuse(facts, query, (1, 2), good)

    def test_rows_that_are_no_rows(self):
        facts = store([("a", "b"), ("b", "c")])
        # The text "ac" has two places as the row ("a", "c") has: it is no row all the same.
        path = ("path", "b", ("fact", 0), ("edge", ("fact", 1)))
        query = ("keep", ("paths", EDGE), (0, 1))
        self.assertEqual(facts_used(facts, {}, query, ("a", "c"), ("from", ("a", "c"), path)), (0, 1))
        self.assertIsNone(facts_used(facts, {}, query, ("a", "c"), ("from", "ac", path)))
        self.refuse(facts, query, ("a", "c"), ("from", ("a", "c", "d"), path))
        self.refuse(facts, query, ("a", "c"), ("from", ("a",), path))
        empty = ("keep", ("paths", EDGE), ())
        self.assertEqual(facts_used(facts, {}, empty, (), ("from", ("a", "c"), path)), (0, 1))
        for row in ((), ("a",), ("a", "c", "c"), "ac", 2, (("a", "c"),)):
            self.assertIsNone(facts_used(facts, {}, empty, (), ("from", row, path)))
        self.refuse(facts, ("paths", EDGE), ("a", "c"),
                    ("path", ("b",), ("fact", 0), ("edge", ("fact", 1))))

    def test_rows_of_another_length(self):
        facts = store([(1, 2), (2, 1)], [1, 2])
        for query in (EDGE, ("pick", EDGE, 1, 2), ("same", ("row", (1, 1)), 0, 1), ("paths", EDGE),
                      ("same", ("row", (1, 1)), 1, 0),
                      ("keep", EDGE, (1, 0)), ("join", NODE, NODE, ((0, 0),)), ("union", EDGE, EDGE),
                      ("repeat", "x", EDGE, X, 2), ("row", (1, 2)), ("join", NODE, NODE, ())):
            for row in plain_rows(query, facts, {})[0]:
                tree = tree_of(facts, {}, query, row, [0, 1, 2, 3])
                self.assert_tree(tree, query, facts, {}, row)
                for other in ((), row[:1], row + (1,), row + row, row + row + row):
                    self.assertIsNone(facts_used(facts, {}, query, other, tree))

    def test_a_view_does_not_see_variables(self):
        facts = store([(1, 2)])
        views = {"v": ("repeat", "x", EDGE, X, 2)}
        query = ("repeat", "x", EDGE, ("view", "v"), 1)
        tree = ("step", ("view", ("step", ("round", ("base", ("fact", 0))))))
        self.assertEqual(facts_used(facts, views, query, (1, 2), tree), (0,))
        deeper = ("step", ("view", ("step", ("round", ("step", ("round", ("base", ("fact", 0))))))))
        self.refuse(facts, query, (1, 2), deeper, views)

    def test_long_paths(self):
        facts = store([(k, k + 1) for k in range(3000)])
        query = ("paths", ("union", ("none", 2), EDGE))
        tree = tree_of(facts, {}, ("paths", EDGE), (2000, 2900), list(range(2000, 2900)))
        used = facts_used(facts, {}, ("paths", EDGE), (2000, 2900), tree)
        self.assertEqual(used, tuple(range(2000, 2900)))
        self.assertIsNone(facts_used(facts, {}, query, (2000, 2900), tree))
        self.assertIsNone(facts_used(facts, {}, ("paths", EDGE), (2000, 2901), tree))
        facts.give_up(2899)
        self.assertIsNone(facts_used(facts, {}, ("paths", EDGE), (2000, 2900), tree))

    def test_changed_trees(self):
        chance = random.Random(31)
        taken = refused = 0
        facts = store([(1, 2), (2, 2), (2, 1), (1, "a"), ("a", 2)], [1, "a"])
        facts.give_up(3)
        views = {"two": ("keep", ("join", EDGE, EDGE, ((1, 0),)), (0, 3)), "n": NODE}
        for query in (
            EDGE, ("row", (1, 2)), ("pick", EDGE, 0, 2), ("same", EDGE, 0, 1), ("keep", EDGE, (1, 0)),
            ("join", EDGE, NODE, ((0, 0),)), ("union", EDGE, ("view", "two")), ("paths", EDGE),
            ("repeat", "x", EDGE, STEP, 3), ("keep", ("paths", ("view", "two")), (1,)),
            ("union", EDGE, EDGE), ("keep", ("row", (1, 2)), (0,)),
            ("join", ("view", "n"), ("keep", ("same", ("view", "two"), 0, 1), (0,)), ()),
        ):
            for row in plain_rows(query, facts, views)[0]:
                tree = tree_of(facts, views, query, row, there_in(facts))
                others = list(changed_trees(tree))
                for other in chance.sample(others, min(len(others), 250)):
                    plain = judged(facts, views, query, row, other)
                    used = facts_used(facts, views, query, row, other)
                    if plain is None:
                        refused += 1
                        self.assertIsNone(used, (query, row, other))
                    else:
                        taken += 1
                        self.assertEqual(used, tuple(sorted(plain)))
        self.assertGreater(refused, 3000)
        self.assertGreater(taken, 3)

    def test_other_rows_and_queries(self):
        chance = random.Random(32)
        for _ in range(120):
            facts = some_facts(chance, 12)
            views, arities = some_views(chance, 2, 4)
            queries = [some_query(chance, 2, chance.randint(1, 6), arities) for _ in range(3)]
            for query in queries:
                for row in list(plain_rows(query, facts, views)[0])[:4]:
                    tree = tree_of(facts, views, query, row, there_in(facts))
                    for other in queries + [EDGE, ("paths", EDGE)]:
                        for values in [row, row[::-1], (0, 0), ("a", 1)]:
                            plain = judged(facts, views, other, values, tree)
                            used = facts_used(facts, views, other, values, tree)
                            told = None if plain is None else tuple(sorted(plain))
                            self.assertEqual(used, told)


class ManyTest(TreeCase):
    def test_each_row_has_a_tree(self):
        chance = random.Random(33)
        for _ in range(250):
            facts = some_facts(chance, chance.randint(2, 16))
            views, arities = some_views(chance, chance.randint(0, 3), 5)
            query = some_query(chance, chance.randint(0, 4), chance.randint(2, 8), arities)
            there = there_in(facts)
            listed = [k for k in there if chance.randrange(4)]
            rows = plain_rows(query, only(facts, listed), views)[0]
            for row in list(plain_rows(query, facts, views)[0])[:6]:
                tree = tree_of(facts, views, query, row, listed)
                if row not in rows:
                    self.assertIsNone(tree)
                    continue
                used = self.assert_tree(tree, query, facts, views, row)
                self.assertTrue(set(used) <= set(listed))
                for _ in range(3):
                    other = tuple(chance.choice(VALUES) for _ in row)
                    plain = judged(facts, views, query, other, tree)
                    used = facts_used(facts, views, query, other, tree)
                    self.assertEqual(used, None if plain is None else tuple(sorted(plain)))
