import random
import unittest

from everyworth.engine import Engine
from everyworth.errors import UnknownFact
from everyworth.impacts import impact
from everyworth.trees import facts_used
from everyworth.values import in_order

from tests.plain import TABLES, VALUES, some_query
from tests.test_circuits import shown
from tests.test_engine import told

EDGE, NODE = ("table", "edge"), ("table", "node")
X = ("var", "x")
STEP = ("keep", ("join", X, EDGE, ((1, 0),)), (0, 3))


class TooMany(Exception):
    """There are more trees than a test looks at."""


def put(found, row, tree):
    trees = found.setdefault(row, [])
    trees.append(tree)
    if len(trees) > 800:
        raise TooMany


def all_trees(query, facts, views, variables=None):
    """All trees by the words of point 24, by rows; of paths those of walks that are not too long."""
    variables = variables or {}
    kind, found = query[0], {}
    if kind == "table":
        return {row: [("fact", k)] for k, row in facts.rows(query[1])}
    if kind == "row":
        return {query[1]: [("given",)]}
    if kind == "view":
        below = all_trees(views[query[1]], facts, views)
        return {row: [("view", tree) for tree in trees] for row, trees in below.items()}
    if kind == "var":
        return {row: [("round", tree) for tree in trees]
                for row, trees in variables[query[1]].items()}
    if kind == "repeat":
        return all_rounds(query, facts, views, variables)
    parts = [all_trees(q, facts, views, variables) for q in query[1:3] if is_query(q)]
    for row, trees in parts[0].items() if parts else ():
        for tree in trees:
            if kind == "pick" and row[query[2]] == query[3]:
                put(found, row, ("pass", tree))
            if kind == "same" and row[query[2]] == row[query[3]]:
                put(found, row, ("pass", tree))
            if kind == "keep":
                put(found, tuple(row[c] for c in query[2]), ("from", row, tree))
            if kind == "union":
                put(found, row, ("left", tree))
            if kind == "join":
                for other, more in parts[1].items():
                    if all(row[i] == other[j] for i, j in query[3]):
                        for rest in more:
                            put(found, row + other, ("both", tree, rest))
    if kind == "union":
        for row, trees in parts[1].items():
            for tree in trees:
                put(found, row, ("right", tree))
    return all_paths(parts[0]) if kind == "paths" else found


def is_query(thing):
    return isinstance(thing, tuple) and len(thing) > 1 and isinstance(thing[0], str)


def all_rounds(query, facts, views, variables):
    _, name, base, step, n = query
    found = {}
    for _ in range(n):
        following = {}
        for row, trees in all_trees(base, facts, views, variables).items():
            for tree in trees:
                put(following, row, ("base", tree))
        inside = {**variables, name: found}
        for row, trees in all_trees(step, facts, views, inside).items():
            for tree in trees:
                put(following, row, ("step", tree))
        found = following
    return found


def all_paths(edges):
    """Trees of walks that are as long as it takes to go to any row, and on from it."""
    found, last = {}, {}
    for row, trees in edges.items():
        for tree in trees:
            put(last, row, ("edge", tree))
    values = {value for row in edges for value in row}
    for _ in range(2 * len(values) + 1):
        longer = {}
        for row, trees in last.items():
            for tree in trees:
                put(found, row, tree)
                for (a, c), firsts in edges.items():
                    for first in firsts if c == row[0] else ():
                        put(longer, (a, row[1]), ("path", c, first, tree))
        last = longer
    return found


def plain_impacts(engine, test):
    """For each fact the pairs of a view and a row for which some tree has the fact in it."""
    facts, views = engine.facts(), engine.queries()
    found = {k: [] for k in range(facts.count())}
    for view, query in views.items():
        trees = all_trees(query, facts, views)
        test.assertEqual(in_order(list(trees)), engine.rows(view))
        for row in in_order(list(trees)):
            used = set()
            for tree in trees[row]:
                one = facts_used(facts, views, query, row, tree)
                test.assertIsNotNone(one)
                used.update(one)
            for k in used:
                found[k].append((view, row))
    return found


def small_engine():
    engine = Engine(TABLES)
    for row in ((1, 2), (2, 3), (1, 3), (3, 4)):
        engine.add("edge", row)
    engine.add("node", (3,))
    engine.define("zeta", ("keep", EDGE, (0,)))
    engine.define("far", ("paths", EDGE))
    engine.define("ends", ("keep", ("join", ("view", "far"), NODE, ((1, 0),)), (0,)))
    engine.define("both", ("union", ("view", "ends"), ("row", (1,))))
    return engine


class ImpactTest(unittest.TestCase):
    def test_small_ones(self):
        engine = small_engine()
        self.assertEqual(impact(engine, 0), [
            ("zeta", (1,)), ("far", (1, 2)), ("far", (1, 3)), ("far", (1, 4)), ("ends", (1,)),
            ("both", (1,)),
        ])
        self.assertEqual(impact(engine, 3), [
            ("zeta", (3,)), ("far", (1, 4)), ("far", (2, 4)), ("far", (3, 4)),
        ])
        self.assertEqual(impact(engine, 4), [
            ("ends", (1,)), ("ends", (2,)), ("both", (1,)), ("both", (2,)),
        ])
        self.assertEqual({type(pair) for pair in impact(engine, 0)}, {tuple})

    def test_facts_given_up_and_brought_back(self):
        engine = small_engine()
        before = [impact(engine, k) for k in range(5)]
        engine.give_up(1)
        self.assertEqual(impact(engine, 1), [])
        self.assertEqual(impact(engine, 0), [("zeta", (1,)), ("far", (1, 2))])
        engine.bring_back(1)
        self.assertEqual([impact(engine, k) for k in range(5)], before)
        engine.give_up(1)
        engine.undo()
        self.assertEqual([impact(engine, k) for k in range(5)], before)

    def test_facts_that_no_view_needs(self):
        engine = Engine(TABLES)
        engine.add("trio", (1, 1, 1))
        self.assertEqual(impact(engine, 0), [])
        engine.define("one", EDGE)
        engine.define("two", ("row", (5,)))
        self.assertEqual(impact(engine, 0), [])

    def test_loops_of_paths(self):
        engine = Engine(TABLES)
        for row in ((1, 2), (2, 2), (2, 3), (4, 4), (3, 3)):
            engine.add("edge", row)
        engine.define("far", ("paths", EDGE))
        self.assertEqual(impact(engine, 1), [("far", (1, 2)), ("far", (1, 3)), ("far", (2, 2)),
                                             ("far", (2, 3))])
        self.assertEqual(impact(engine, 3), [("far", (4, 4))])
        self.assertEqual(impact(engine, 4), [("far", (1, 3)), ("far", (2, 3)), ("far", (3, 3))])

    def test_rounds_of_a_repeat(self):
        engine = Engine(TABLES)
        for row in ((1, 2), (2, 3), (3, 4)):
            engine.add("edge", row)
        for name, n in (("nil", 0), ("one", 1), ("two", 2), ("three", 3)):
            engine.define(name, ("pick", ("repeat", "x", EDGE, STEP, n), 0, 1))
        self.assertEqual(impact(engine, 0), [
            ("one", (1, 2)), ("two", (1, 2)), ("two", (1, 3)),
            ("three", (1, 2)), ("three", (1, 3)), ("three", (1, 4)),
        ])
        self.assertEqual(impact(engine, 2), [("three", (1, 4))])

    def test_rows_with_texts_and_integers(self):
        engine = Engine(TABLES)
        engine.add("node", ("b",))
        engine.define("all", ("union", ("keep", ("join", NODE, ("row", (7, "a")), ()), (1,)),
                              ("union", ("keep", ("join", NODE, ("row", ("a",)), ()), (1,)), NODE)))
        self.assertEqual(impact(engine, 0), [("all", (7,)), ("all", ("a",)), ("all", ("b",))])

    def test_against_all_trees_of_each_row(self):
        looked = pairs = 0
        for seed in range(400):
            chance = random.Random(seed)
            engine, arities = Engine(TABLES), {}
            for _ in range(chance.randrange(1, 6)):
                table, width = chance.choice(TABLES[:1] * 3 + TABLES)
                row = tuple(chance.choice(VALUES) for _ in range(width))
                if engine.facts().find(table, row) is None:
                    engine.add(table, row)
            for view in ("vz", "va", "vm")[:chance.randint(1, 3)]:
                arity = chance.randint(0, 2)
                engine.define(view, some_query(chance, arity, 4, arities))
                arities[view] = arity
            if engine.facts().count() > 1:
                engine.give_up(chance.randrange(engine.facts().count()))
            try:
                plain = plain_impacts(engine, self)
            except TooMany:
                continue
            before = told(engine), shown(engine.circuits())
            for k, found in plain.items():
                self.assertEqual(impact(engine, k), found, (seed, k))
                pairs += len(found)
            self.assertEqual((told(engine), shown(engine.circuits())), before)
            looked += 1
        self.assertGreater(looked, 200)
        self.assertGreater(pairs, 500)

    def test_numbers_that_are_no_facts(self):
        engine = small_engine()
        for number in (5, -1, -5, 10 ** 20, -(10 ** 20)):
            with self.assertRaises(UnknownFact):
                impact(engine, number)
        with self.assertRaises(UnknownFact):
            impact(Engine(TABLES), 0)
        for _ in range(5):
            engine.undo()
        with self.assertRaises(UnknownFact):
            impact(engine, 4)


if __name__ == "__main__":
    unittest.main()
