import itertools
import random
import unittest

from everyworth.engine import Engine
from everyworth.errors import InvalidArgument, TooLarge, UnknownTable, UnknownView
from everyworth.reasons import least_whys, missing, repairs, rows_left
from everyworth.values import in_order

from tests.plain import TABLES, only, plain_rows, some_query
from tests.test_circuits import shown
from tests.test_engine import told

EDGE, NODE = ("table", "edge"), ("table", "node")
TWO = ("keep", ("join", EDGE, EDGE, ((1, 0),)), (0, 3))


def subsets(things):
    things = list(things)
    return [set(s) for k in range(len(things) + 1) for s in itertools.combinations(things, k)]


def least(sets):
    """Of some sets those without a proper part among them, as ascending tuples, ascending."""
    kept = [s for s in sets if not any(t < s for t in sets)]
    return tuple(sorted(tuple(sorted(s)) for s in kept))


def there_in(engine):
    facts = engine.facts()
    return [k for k in range(facts.count()) if facts.is_there(k)]


def rows_with(engine, view, numbers):
    """The rows of a view if just these facts are there."""
    return plain_rows(engine.query(view), only(engine.facts(), numbers), engine.queries())[0]


def plain_whys(engine, view, row):
    return least([s for s in subsets(there_in(engine)) if row in rows_with(engine, view, s)])


def plain_repairs(engine, view, row):
    there = set(there_in(engine))
    return least([s for s in subsets(there) if row not in rows_with(engine, view, there - s)])


def plain_missing(engine, view, row, candidates):
    facts = engine.facts()
    there, numbers = set(there_in(engine)), []
    for table, values in candidates:
        k = facts.find(table, values)
        numbers.append(facts.add(table, values) if k is None else k)
    found = []
    for chosen in subsets(range(len(candidates))):
        twin = only(facts, there | {numbers[k] for k in chosen})
        if row in plain_rows(engine.query(view), twin, engine.queries())[0]:
            found.append(chosen)
    return least(found)


class ReasonsCase(unittest.TestCase):
    def engine(self):
        engine = Engine(TABLES)
        for row in ((1, 2), (2, 3), (3, 1), (1, 3), (2, 2), (3, 4)):
            engine.add("edge", row)
        engine.add("node", (3,))
        engine.define("two", TWO)
        engine.define("far", ("paths", EDGE))
        engine.define("ends", ("keep", ("join", ("view", "far"), NODE, ((1, 0),)), (0,)))
        engine.define("some", ("union", ("row", (7, 7)), ("view", "two")))
        engine.define("always", ("union", ("row", (1, 3)), EDGE))
        engine.define("none", ("none", 2))
        engine.give_up(2)
        return engine

    def check_kept(self, engine, before):
        """Check that facts, views, circuits and what is changed are as before."""
        self.assertEqual((told(engine), engine.changed(), shown(engine.circuits())), before)

    def state(self, engine):
        return told(engine), engine.changed(), shown(engine.circuits())


class WhysTest(ReasonsCase):
    def test_small_ones(self):
        engine = self.engine()
        self.assertEqual(least_whys(engine, "two", (1, 3)), ((0, 1),))
        self.assertEqual(least_whys(engine, "far", (1, 3)), ((0, 1), (3,)))
        self.assertEqual(least_whys(engine, "far", (2, 2)), ((4,),))
        self.assertEqual(least_whys(engine, "far", (1, 4)), ((0, 1, 5), (3, 5)))
        self.assertEqual(least_whys(engine, "ends", (1,)), ((0, 1, 6), (3, 6)))

    def test_rows_that_are_not_there_and_rows_that_need_no_fact(self):
        engine = self.engine()
        for view, row in (("two", (3, 3)), ("far", (4, 1)), ("far", (1,)), ("none", (1, 2)),
                          ("far", ()), ("two", (7, 7))):
            self.assertEqual(least_whys(engine, view, row), ())
        self.assertEqual(least_whys(engine, "some", (7, 7)), ((),))
        self.assertEqual(least_whys(engine, "always", (1, 3)), ((),))

    def test_unknown_views(self):
        engine = self.engine()
        for ask in (least_whys, repairs, lambda *args: missing(*args, []),
                    lambda e, view, row: rows_left(e, view, [])):
            for view in ("", "edge", "fars"):
                with self.assertRaises(UnknownView):
                    ask(engine, view, (1, 2))

    def many(self, left, right):
        """An engine with a row that has left times right least whys."""
        engine = Engine([("one", 1), ("two", 1)])
        for k in range(left):
            engine.add("one", (k,))
        for k in range(right):
            engine.add("two", (k,))
        one, two = ("keep", ("table", "one"), ()), ("keep", ("table", "two"), ())
        engine.define("both", ("join", one, two, ()))
        return engine

    def test_400_whys_and_more(self):
        whys = least_whys(self.many(20, 20), "both", ())
        self.assertEqual(whys, tuple((a, b) for a in range(20) for b in range(20, 40)))
        engine = self.many(20, 21)
        before = self.state(engine)
        with self.assertRaises(TooLarge):
            least_whys(engine, "both", ())
        self.check_kept(engine, before)

    def test_repairs_where_there_are_too_many_whys(self):
        engine = self.many(20, 21)
        self.assertEqual(repairs(engine, "both", ()), (tuple(range(20)), tuple(range(20, 41))))

    def test_more_than_400_repairs(self):
        engine = Engine([("pair", 2)])
        for k in range(9):
            engine.add("pair", (k, 0))
            engine.add("pair", (k, 1))
        pairs = ("join", ("pick", ("table", "pair"), 1, 0), ("pick", ("table", "pair"), 1, 1),
                 ((0, 0),))
        engine.define("some", ("keep", pairs, ()))
        found = repairs(engine, "some", ())
        plain = sorted(itertools.product(*[(2 * k, 2 * k + 1) for k in range(9)]))
        self.assertEqual(found, tuple(plain))
        self.assertEqual(len(found), 512)


    def test_many_sets_in_between(self):
        # Paths between two of six values, all of which are linked: the way by 1, 2 and 3 in turn
        # is a reason, that by a cycle is none.
        engine, numbers = Engine(TABLES), {}
        for row in itertools.permutations(range(6), 2):
            numbers[row] = engine.add("edge", row)
        engine.define("far", ("paths", EDGE))
        plain = []
        for many in range(5):
            for middle in itertools.permutations(range(1, 5), many):
                way = (0, *middle, 5)
                plain.append(tuple(sorted(numbers[row] for row in itertools.pairwise(way))))
        self.assertEqual(least_whys(engine, "far", (0, 5)), tuple(sorted(plain)))
        sides = [{0} | s for s in subsets(range(1, 5))]
        plain = [{numbers[a, b] for a, b in numbers if a in s and b not in s} for s in sides]
        self.assertEqual(repairs(engine, "far", (0, 5)), least(plain))

    def test_reasons_that_would_not_end(self):
        # One fact of each of eight groups of seven: there are 5764801 least whys.
        engine = Engine(TABLES)
        for k in range(56):
            engine.add("edge", (k // 7, k))
        query = ("row", ())
        for k in range(8):
            query = ("join", query, ("keep", ("pick", EDGE, 0, k), ()), ())
        engine.define("v", query)
        with self.assertRaises(TooLarge):
            least_whys(engine, "v", ())
        groups = tuple(tuple(range(7 * k, 7 * k + 7)) for k in range(8))
        self.assertEqual(repairs(engine, "v", ()), groups)


class RepairsTest(ReasonsCase):
    def test_few_repairs_of_many_ways(self):
        # The ways by equal values were made first: each of them alone can be cut in two ways.
        engine = Engine([("one", 1), ("two", 1)])
        for k in range(30):
            engine.add("one", (k,))
            engine.add("two", (k,))
        one, two = ("table", "one"), ("table", "two")
        engine.define("same", ("join", one, two, ((0, 0),)))
        engine.define("all", ("keep", ("join", one, two, ()), ()))
        self.assertEqual(repairs(engine, "all", ()),
                         (tuple(range(0, 60, 2)), tuple(range(1, 60, 2))))

    def test_small_ones(self):
        engine = self.engine()
        self.assertEqual(repairs(engine, "two", (1, 3)), ((0,), (1,)))
        self.assertEqual(repairs(engine, "far", (1, 3)), ((0, 3), (1, 3)))
        self.assertEqual(repairs(engine, "far", (1, 4)), ((0, 3), (1, 3), (5,)))
        self.assertEqual(repairs(engine, "ends", (1,)), ((0, 3), (1, 3), (6,)))

    def test_rows_that_are_not_there_and_rows_that_need_no_fact(self):
        engine = self.engine()
        for view, row in (("two", (3, 3)), ("far", (4, 1)), ("far", (1,)), ("none", (1, 2))):
            self.assertEqual(repairs(engine, view, row), ((),))
        self.assertEqual(repairs(engine, "some", (7, 7)), ())
        self.assertEqual(repairs(engine, "always", (1, 3)), ())


class MissingTest(ReasonsCase):
    def test_small_ones(self):
        engine = self.engine()
        candidates = [("edge", (4, 1)), ("edge", (3, 1)), ("node", (2,)), ("edge", (4, 3))]
        self.assertEqual(missing(engine, "far", (4, 1), candidates), ((0,), (1, 3)))
        self.assertEqual(missing(engine, "far", (3, 1), candidates), ((0,), (1,)))
        self.assertEqual(missing(engine, "ends", (4,), candidates), ((0,), (3,)))
        self.assertEqual(missing(engine, "far", (5, 1), candidates), ())
        self.assertEqual(missing(engine, "far", (4, 1), []), ())
        self.assertEqual(missing(engine, "far", (4,), candidates), ())
        self.assertEqual(missing(engine, "none", (1, 2), candidates), ())

    def test_rows_that_are_there(self):
        engine = self.engine()
        for view, row in (("two", (1, 3)), ("far", (1, 4)), ("some", (7, 7)), ("always", (1, 3))):
            for candidates in ([], [("edge", (9, 9))], [("edge", (3, 1)), ("node", (1,))]):
                self.assertEqual(missing(engine, view, row, candidates), ((),))

    def test_a_fact_that_was_given_up(self):
        engine = self.engine()
        self.assertEqual(missing(engine, "two", (3, 3), [("edge", (3, 1))]), ((0,),))
        self.assertEqual(missing(engine, "two", (2, 1), [("node", (9,)), ("edge", (3, 1))]), ((1,),))
        self.assertIs(engine.facts().is_there(2), False)

    def test_the_order_of_candidates(self):
        engine = self.engine()
        candidates = [("edge", (9, k)) for k in range(12)] + [("edge", (4, 9))]
        rows = missing(engine, "far", (4, 2), candidates)
        # From 9 to 2 at once, or by 1.
        self.assertEqual(rows, ((1, 12), (2, 12)))
        self.assertEqual(missing(engine, "far", (4, 2), list(reversed(candidates))),
                         ((0, 10), (0, 11)))

    def test_errors(self):
        engine = self.engine()
        fine, unknown = ("edge", (8, 8)), ("edges", (1, 2))
        short, there, twice = ("edge", (1,)), ("edge", (1, 2)), ("edge", (8, 8))
        before = self.state(engine)
        for candidates, error in (
            ([unknown], UnknownTable), ([short], InvalidArgument), ([there], InvalidArgument),
            ([fine, twice], InvalidArgument), ([fine, unknown], UnknownTable),
            ([fine, short], InvalidArgument), ([fine, there], InvalidArgument),
            ([("edge", (1, 2, 3))], InvalidArgument), ([("node", ())], InvalidArgument),
            ([("edge", (3, 1)), ("edge", (3, 1))], InvalidArgument),
            # Of two errors the first candidate is told.
            ([unknown, short], UnknownTable), ([short, unknown], InvalidArgument),
            ([there, unknown], InvalidArgument), ([unknown, there], UnknownTable),
            ([fine, twice, unknown], InvalidArgument), ([fine, unknown, twice], UnknownTable),
            ([("two", (1, 2))], UnknownTable),
        ):
            for view, row in (("far", (4, 1)), ("far", (1, 3)), ("none", (1,))):
                with self.assertRaises(error) as caught:
                    missing(engine, view, row, candidates)
                self.assertIs(type(caught.exception), error)
                self.check_kept(engine, before)
        with self.assertRaises(UnknownView):
            missing(engine, "no", (1, 2), [unknown])

    def test_too_large(self):
        engine = Engine([("one", 1), ("two", 1)])
        one, two = ("keep", ("table", "one"), ()), ("keep", ("table", "two"), ())
        engine.define("both", ("join", one, two, ()))
        engine.define("pairs", ("join", ("table", "one"), ("table", "two"), ()))
        before = self.state(engine)
        candidates = [("one", (k,)) for k in range(20)] + [("two", (k,)) for k in range(21)]
        with self.assertRaises(TooLarge):
            missing(engine, "both", (), candidates)
        self.assertEqual(len(missing(engine, "both", (), candidates[:40])), 400)
        self.assertEqual(missing(engine, "pairs", (3, 4), candidates), ((3, 24),))
        with self.assertRaises(InvalidArgument):
            missing(engine, "both", (), candidates + candidates[:1])
        self.check_kept(engine, before)

    def test_more_facts_than_an_engine_has(self):
        engine = Engine([("one", 1)])
        for k in range(200):
            engine.add("one", (k,))
        engine.define("v", ("join", ("table", "one"), ("row", (1,)), ()))
        self.assertEqual(missing(engine, "v", (200, 1), [("one", (199 + k,)) for k in (5, 1)]),
                         ((1,),))

    def test_a_row_that_is_there_whatever_the_candidates_would_bring(self):
        engine = Engine([("one", 1)])
        for k in range(10):
            engine.add("one", (k,))
        engine.define("pairs", ("join", ("table", "one"), ("table", "one"), ()))
        candidates = [("one", (k,)) for k in range(10, 300)]
        self.assertEqual(missing(engine, "pairs", (3, 4), candidates), ((),))

    def test_what_is_passed_is_not_changed(self):
        engine = self.engine()
        candidates, before = [("edge", (4, 1)), ("edge", (3, 1))], self.state(engine)
        missing(engine, "far", (4, 1), candidates)
        self.assertEqual(candidates, [("edge", (4, 1)), ("edge", (3, 1))])
        self.check_kept(engine, before)


class LeftTest(ReasonsCase):
    def test_small_ones(self):
        engine = self.engine()
        rows = [(1, 2), (1, 3), (1, 4), (2, 2), (2, 3), (2, 4), (3, 4)]
        self.assertEqual(rows_left(engine, "far", []), rows)
        self.assertEqual(rows_left(engine, "far", [0]), [r for r in rows if r != (1, 2)])
        self.assertEqual(rows_left(engine, "far", [4]), [r for r in rows if r != (2, 2)])
        self.assertEqual(rows_left(engine, "far", [0, 3]), rows[3:])
        self.assertEqual(rows_left(engine, "far", [5, 1]), [(1, 2), (1, 3), (2, 2)])
        self.assertEqual(rows_left(engine, "ends", [6]), [])
        self.assertEqual(rows_left(engine, "some", list(range(7))), [(7, 7)])
        self.assertEqual(rows_left(engine, "none", [1]), [])

    def test_numbers_that_do_not_matter(self):
        engine = self.engine()
        for numbers in ([2], [2, 2], [99], [-1], [10 ** 20, -5, 7]):
            self.assertEqual(rows_left(engine, "far", numbers), engine.rows("far"))
        self.assertEqual(rows_left(engine, "far", [1, 5, 1, 2, 99, 5]), [(1, 2), (1, 3), (2, 2)])

    def test_nothing_changes(self):
        engine = self.engine()
        numbers, before = [3, 0], self.state(engine)
        rows_left(engine, "far", numbers).clear()
        self.assertEqual(numbers, [3, 0])
        repairs(engine, "far", (1, 3))
        least_whys(engine, "far", (1, 3))
        self.check_kept(engine, before)

    def test_a_wide_view(self):
        engine = Engine([("one", 1), ("two", 1)])
        for k in range(40):
            engine.add("one", (k,))
        for k in range(50):
            engine.add("two", (k,))
        engine.define("wide", ("join", ("table", "one"), ("table", "two"), ()))
        left = rows_left(engine, "wide", [0, 40])
        self.assertEqual(left, [(a, b) for a in range(1, 40) for b in range(1, 50)])


class ManyTest(ReasonsCase):
    def some_engine(self, chance):
        engine, values = Engine(TABLES), [0, 1, "a"]
        for _ in range(chance.randint(2, 8)):
            table, arity = chance.choice(TABLES[:1] * 3 + TABLES)
            row = tuple(chance.choice(values) for _ in range(arity))
            if engine.facts().find(table, row) is None:
                engine.add(table, row)
        arities = {}
        for name in ("va", "vb", "vc"):
            arity = chance.randint(0, 3)
            query = some_query(chance, arity, chance.randint(3, 7), arities)
            if plain_rows(query, engine.facts(), engine.queries())[1] < 200:
                engine.define(name, query)
                arities[name] = arity
        for k in range(engine.facts().count()):
            if chance.randrange(5) == 0:
                engine.give_up(k)
        return engine

    def test_whys_repairs_and_rows_left(self):
        chance = random.Random(21)
        for _ in range(60):
            engine = self.some_engine(chance)
            there = there_in(engine)
            for view in engine.views():
                rows = engine.rows(view)[:3] + [(0,) * engine.arity(view)]
                for row in rows:
                    self.assertEqual(least_whys(engine, view, row), plain_whys(engine, view, row))
                    self.assertEqual(repairs(engine, view, row), plain_repairs(engine, view, row))
                for _ in range(4):
                    gone = [k for k in range(-1, 10) if chance.randrange(3) == 0]
                    left = rows_with(engine, view, set(there) - set(gone))
                    self.assertEqual(rows_left(engine, view, gone), in_order(list(left)))

    def test_missing_sets(self):
        chance = random.Random(22)
        found = 0
        for _ in range(80):
            engine = self.some_engine(chance)
            facts, candidates = engine.facts(), []
            for _ in range(chance.randint(0, 5)):
                table, arity = chance.choice(TABLES)
                row = tuple(chance.choice([0, 1, "a"]) for _ in range(arity))
                k = facts.find(table, row)
                if (table, row) not in candidates and (k is None or not facts.is_there(k)):
                    candidates.append((table, row))
            for view in engine.views():
                for _ in range(3):
                    row = tuple(chance.choice([0, 1, "a"]) for _ in range(engine.arity(view)))
                    sets = missing(engine, view, row, candidates)
                    self.assertEqual(sets, plain_missing(engine, view, row, candidates))
                    found += sets not in ((), ((),))
        self.assertGreater(found, 20)
