import random
import unittest

from everyworth.circuits import Circuits, worth
from everyworth.engine import Engine
from everyworth.errors import (
    DuplicateFact, DuplicateView, InvalidArgument, NoStar, NothingToUndo, QueryError, TooLarge,
    UnknownFact, UnknownTable, UnknownView, WrongState,
)
from everyworth.facts import Facts
from everyworth.meaning import meaning
from everyworth.polynomials import Polynomials, variable
from everyworth.semirings import Costs, Numbers
from everyworth.values import in_order

from tests.plain import TABLES, all_work, capped, field, plain_rows, some_query

EDGE, NODE = ("table", "edge"), ("table", "node")
X = ("var", "x")
TWO = ("keep", ("join", EDGE, EDGE, ((1, 0),)), (0, 3))
STEP = ("keep", ("join", X, EDGE, ((1, 0),)), (0, 3))


def store_of(engine):
    facts = engine.facts()
    return [(facts.fact(k), facts.is_there(k)) for k in range(facts.count())]


def told(engine):
    """All that an engine tells of its facts and views, the nodes included."""
    views = {
        view: (engine.query(view), engine.arity(view),
               [(row, engine.node(view, row)) for row in engine.rows(view)])
        for view in engine.views()
    }
    return engine.facts().tables(), store_of(engine), engine.views(), views, engine.queries()


def nodes_told(engine):
    return {
        view: {row: engine.node(view, row) for row in engine.rows(view)} for view in engine.views()
    }


def filled():
    """An engine with two views over facts of which one is given up."""
    engine = Engine(TABLES)
    for row in ((1, 2), (2, 3), (3, 1), (1, "a")):
        engine.add("edge", row)
    engine.add("node", (2,))
    engine.define("two", TWO)
    engine.define("far", ("paths", ("union", ("view", "two"), EDGE)))
    engine.give_up(2)
    return engine


class EngineCase(unittest.TestCase):
    def refused(self, error, engine, method, *args, code=None):
        """Check that a call raises exactly this error, and that nothing changes."""
        before, changed = told(engine), engine.changed()
        with self.assertRaises(error) as caught:
            getattr(engine, method)(*args)
        self.assertIs(type(caught.exception), error)
        if code is not None:
            self.assertEqual(caught.exception.code, code)
        self.assertEqual(told(engine), before)
        self.assertEqual(engine.changed(), changed)

    def check_views(self, engine, seed=0):
        """Check rows, nodes and worths of all views against the meaning."""
        chance, facts = random.Random(seed), engine.facts()
        queries, circuits = engine.queries(), engine.circuits()
        there = [k for k in range(facts.count()) if facts.is_there(k)]
        self.assertEqual(list(queries), engine.views())
        for view, query in queries.items():
            self.assertEqual(engine.query(view), query)
            rows = plain_rows(query, facts, queries)[0]
            self.assertEqual(engine.rows(view), in_order(list(rows)))
            for row in rows:
                self.assertEqual(len(row), engine.arity(view))
                self.assertTrue(set(circuits.facts_in(engine.node(view, row))) <= set(there))
            for semiring, size in ((capped(3), 4), (field(5), 5), (Numbers(), 3)):
                worths = {k: chance.randrange(size) for k in there}
                try:
                    plain = meaning(query, facts, queries, semiring, worths)
                except NoStar:
                    continue
                for row in rows:
                    self.assertEqual(engine.worth(view, row, semiring, worths), plain[row])
                    node = engine.node(view, row)
                    self.assertEqual(worth(circuits, node, semiring, worths), plain[row])
            self.assertEqual(engine.node(view, ("none", "of", "them")), 0)

    def check_changed(self, engine, before):
        """Check what is told of changed rows against the nodes before."""
        now, found = nodes_told(engine), {}
        for view in now:
            if view in before:
                rows = [row for row in {**before[view], **now[view]}
                        if before[view].get(row, 0) != now[view].get(row, 0)]
                if rows:
                    found[view] = in_order(rows)
        self.assertEqual(engine.changed(), found)


class NewTest(EngineCase):
    def test_a_new_engine(self):
        engine = Engine(TABLES)
        self.assertEqual(engine.facts().tables(), TABLES)
        self.assertEqual((engine.views(), engine.queries(), engine.changed()), ([], {}, {}))
        self.assertEqual((engine.facts().count(), engine.circuits().count()), (0, 2))
        self.assertIs(type(engine.facts()), Facts)
        self.assertIs(type(engine.circuits()), Circuits)
        self.refused(NothingToUndo, engine, "undo")
        self.assertEqual(Engine([]).facts().tables(), [])

    def test_malformed_tables(self):
        for tables in ([("A", 1)], [("a", 1), ("a", 1)], [("a", 0)], [("a", 5)], [("", 1)]):
            with self.assertRaises(InvalidArgument):
                Engine(tables)

    def test_two_engines(self):
        one, other = filled(), filled()
        before = told(other)
        one.add("edge", (7, 7))
        one.undo()
        one.undo()
        self.assertEqual(told(other), before)

    def test_what_is_passed_and_returned(self):
        tables = [("edge", 2), ("node", 1)]
        engine = Engine(tables)
        tables.append(("more", 1))
        engine.add("edge", (1, 2))
        engine.define("v", EDGE)
        engine.add("edge", (2, 3))
        before, changed = told(engine), engine.changed()
        engine.facts().add("edge", (5, 5))
        engine.facts().give_up(0)
        engine.views().append("w")
        engine.queries()["w"] = NODE
        engine.rows("v").clear()
        engine.changed()["v"].append((9, 9))
        engine.changed().clear()
        self.assertEqual(told(engine), before)
        self.assertEqual(engine.changed(), changed)
        kept = engine.facts()
        engine.add("edge", (3, 4))
        self.assertEqual(kept.count(), 2)


class ChangesTest(EngineCase):
    def test_add(self):
        engine = Engine(TABLES)
        engine.define("v", EDGE)
        self.assertEqual([engine.add("edge", (1, 2)), engine.add("node", ("a",))], [0, 1])
        self.assertEqual(engine.add("edge", (0, 2)), 2)
        self.assertEqual(engine.rows("v"), [(0, 2), (1, 2)])
        self.assertEqual(engine.circuits().shown(engine.node("v", (0, 2))), ("fact", 2))
        self.check_views(engine)

    def test_errors_of_add_in_order(self):
        engine = filled()
        self.refused(UnknownTable, engine, "add", "edges", (1, 2, 3))
        self.refused(UnknownTable, engine, "add", "two", (1, 2))
        for row in ((), (1,), (1, 2, 3)):
            self.refused(InvalidArgument, engine, "add", "edge", row)
        self.refused(DuplicateFact, engine, "add", "edge", (1, 2))
        # A fact that is given up is a fact still.
        self.refused(DuplicateFact, engine, "add", "edge", (3, 1))
        self.assertEqual(engine.add("edge", (9, 9)), 5)

    def test_give_up_and_bring_back(self):
        engine = filled()
        self.assertEqual(engine.rows("two"), [(1, 3)])
        self.assertEqual(engine.rows("far"), [(1, 2), (1, 3), (1, "a"), (2, 3)])
        self.assertIsNone(engine.bring_back(2))
        self.assertEqual(engine.rows("two"), [(1, 3), (2, 1), (3, 2), (3, "a")])
        self.check_views(engine)
        self.assertIsNone(engine.give_up(0))
        self.assertEqual(engine.rows("two"), [(2, 1), (3, "a")])
        self.assertEqual(engine.node("two", (1, 3)), 0)
        self.check_views(engine)

    def test_errors_of_give_up_and_bring_back(self):
        engine = filled()
        for number in (-1, 5, 100, 10 ** 20):
            self.refused(UnknownFact, engine, "give_up", number)
            self.refused(UnknownFact, engine, "bring_back", number)
        self.refused(WrongState, engine, "give_up", 2)
        self.refused(WrongState, engine, "bring_back", 0)

    def test_define(self):
        engine = filled()
        self.assertIsNone(engine.define("ends", ("keep", ("view", "far"), (1,))))
        self.assertEqual(engine.views(), ["two", "far", "ends"])
        self.assertEqual(engine.rows("ends"), [(2,), (3,), ("a",)])
        self.assertEqual(engine.arity("ends"), 1)
        self.assertEqual(engine.query("ends"), ("keep", ("view", "far"), (1,)))
        engine.define("a" * 12, ("none", 6))
        self.assertEqual((engine.rows("a" * 12), engine.arity("a" * 12)), ([], 6))
        # A view may have the name of a table.
        engine.define("edge", ("keep", EDGE, (0,)))
        self.assertEqual((engine.arity("edge"), engine.rows("edge")), (1, [(1,), (2,)]))
        self.check_views(engine)

    def test_errors_of_define_in_order(self):
        engine, bad = filled(), ("table", "no")
        for name in ("", "A", "a1", "a" * 13, "two "):
            self.refused(InvalidArgument, engine, "define", name, bad)
            self.refused(InvalidArgument, engine, "define", name, EDGE)
        self.refused(DuplicateView, engine, "define", "two", bad)
        self.refused(DuplicateView, engine, "define", "far", EDGE)
        for code, query in (
            ("form", ()), ("form", ("tables", "edge")), ("table", bad), ("table", ("table", "two")),
            ("view", ("view", "edge")), ("view", ("view", "new")), ("variable", X),
            ("column", ("pick", ("view", "two"), 2, 1)), ("arity", ("union", NODE, EDGE)),
        ):
            self.refused(QueryError, engine, "define", "new", query, code=code)
        self.assertEqual(engine.views(), ["two", "far"])

    def test_unknown_views(self):
        engine = filled()
        for view in ("", "edge", "tw", "new"):
            for method in ("query", "arity", "rows"):
                self.refused(UnknownView, engine, method, view)
            self.refused(UnknownView, engine, "node", view, (1, 2))
            self.refused(UnknownView, engine, "worth", view, (1, 2), Numbers(), {})

    def test_worth(self):
        engine = filled()
        worths = {0: 2, 1: 3, 3: 5, 4: 7}
        self.assertEqual(engine.worth("far", (1, 3), Numbers(), worths), 12)
        self.assertEqual(engine.worth("far", (1, 3), Costs(), worths), 5)
        self.assertEqual(engine.worth("far", (3, 3), Numbers(), {}), 0)
        self.assertIsNone(engine.worth("far", (9,), Costs(), {}))
        engine.add("edge", (3, 3))
        with self.assertRaises(NoStar):
            engine.worth("far", (3, 3), Numbers(), {**worths, 5: 1})
        self.assertEqual(engine.worth("far", (1, 2), Numbers(), {**worths, 5: 1}), 2)

    def test_worth_that_is_too_large(self):
        engine = Engine([("node", 1)])
        for k in range(21):
            engine.add("node", (k,))
        everything = ("keep", ("table", "node"), ())
        engine.define("v", ("join", everything, ("join", everything, everything, ()), ()))
        with self.assertRaises(TooLarge):
            engine.worth("v", (), Polynomials(), {k: variable(k) for k in range(21)})
        self.assertEqual(engine.worth("v", (), Numbers(), {k: 1 for k in range(21)}), 21 ** 3)


class UndoTest(EngineCase):
    def test_undo_of_each_kind_of_change(self):
        for method, args in (
            ("add", ("edge", (2, 2))), ("add", ("node", (3,))), ("give_up", (0,)),
            ("give_up", (4,)), ("bring_back", (2,)), ("define", ("new", ("view", "two"))),
        ):
            engine = filled()
            before = told(engine)
            getattr(engine, method)(*args)
            self.assertNotEqual(told(engine), before)
            self.assertIsNone(engine.undo())
            self.assertEqual(told(engine), before)

    def test_all_changes_one_after_the_other(self):
        chance, engine = random.Random(2), Engine(TABLES)
        states = []
        for _ in range(60):
            states.append(told(engine))
            if not some_change(chance, engine):
                states.pop()
        while states:
            engine.undo()
            self.assertEqual(told(engine), states.pop())
        self.refused(NothingToUndo, engine, "undo")

    def test_what_is_undone_is_not_undone_again(self):
        engine = Engine(TABLES)
        engine.add("node", (1,))
        first = told(engine)
        engine.add("node", (2,))
        engine.undo()
        engine.add("node", (3,))
        engine.undo()
        self.assertEqual(told(engine), first)
        engine.undo()
        self.assertEqual(engine.facts().count(), 0)
        self.refused(NothingToUndo, engine, "undo")

    def test_what_raised_is_not_undone(self):
        engine = filled()
        self.refused(DuplicateFact, engine, "add", "edge", (1, 2))
        self.refused(QueryError, engine, "define", "new", ("var", "x"))
        engine.undo()
        self.assertIs(engine.facts().is_there(2), True)

    def test_the_number_of_a_fact_is_free_again(self):
        engine = filled()
        self.assertEqual(engine.add("edge", (5, 6)), 5)
        engine.undo()
        self.assertIsNone(engine.facts().find("edge", (5, 6)))
        self.refused(UnknownFact, engine, "give_up", 5)
        self.assertEqual(engine.add("node", (8,)), 5)
        self.assertEqual(engine.add("edge", (5, 6)), 6)
        self.assertEqual(engine.facts().fact(5), ("node", (8,)))
        self.check_views(engine)

    def test_the_name_of_a_view_is_free_again(self):
        engine = filled()
        engine.define("new", EDGE)
        engine.undo()
        self.refused(UnknownView, engine, "rows", "new")
        engine.define("new", NODE)
        self.assertEqual((engine.arity("new"), engine.rows("new")), (1, [(2,)]))


def some_change(chance, engine, bound=None):
    """Make one change, or undo, at random: return True unless it raised an error."""
    facts, queries = engine.facts(), engine.queries()
    kind = chance.randrange(8)
    try:
        if kind < 3:
            table, arity = chance.choice(TABLES[:1] * 3 + TABLES)
            engine.add(table, tuple(chance.choice([0, 1, 2, "a"]) for _ in range(arity)))
        elif kind < 5 and facts.count():
            k = chance.randrange(facts.count())
            (engine.give_up if facts.is_there(k) else engine.bring_back)(k)
        elif len(queries) < 6:
            arities = {view: engine.arity(view) for view in queries}
            query = some_query(chance, chance.randint(0, 3), chance.randint(1, 7), arities)
            name = next(n for n in ("va", "vb", "vc", "vd", "ve", "vf") if n not in queries)
            if bound is not None and plain_rows(query, facts, queries)[1] > bound:
                return False
            engine.define(name, query)
        else:
            return False
    except DuplicateFact:
        return False
    return True


class FollowTest(EngineCase):
    def test_views_and_changed_rows_behind_each_change(self):
        for seed in range(25):
            chance, engine = random.Random(seed), Engine(TABLES)
            kept = {}
            for step in range(25):
                before = nodes_told(engine)
                if chance.randrange(6) == 0 and step > 5:
                    engine.undo()
                elif not some_change(chance, engine, 300):
                    self.assertEqual(nodes_told(engine), before)
                    continue
                self.check_views(engine, step)
                self.check_changed(engine, before)
                # Nodes that were told keep what is shown of them.
                circuits = engine.circuits()
                for rows in nodes_told(engine).values():
                    for node in rows.values():
                        self.assertEqual(kept.setdefault(node, circuits.shown(node)),
                                         circuits.shown(node))
                for node, shown in kept.items():
                    self.assertEqual(circuits.shown(node), shown)

    def test_worths_of_old_nodes(self):
        engine = filled()
        engine.bring_back(2)
        node = engine.node("far", (1, 1))
        worths = {k: k + 1 for k in range(5)}
        before = worth(engine.circuits(), node, field(7), worths)
        store = engine.circuits()
        for change in (lambda: engine.give_up(0), lambda: engine.add("edge", (2, 1)), engine.undo,
                       lambda: engine.define("new", ("paths", ("view", "far"))), engine.undo):
            change()
            self.assertIs(engine.circuits(), store)
            self.assertEqual(worth(store, node, field(7), worths), before)

    def test_nodes_stay_when_facts_come_back(self):
        engine = filled()
        before = nodes_told(engine)
        engine.give_up(1)
        self.assertNotEqual(nodes_told(engine), before)
        engine.bring_back(1)
        self.assertEqual(nodes_told(engine), before)


class ChangedTest(EngineCase):
    def test_at_first_nothing(self):
        self.assertEqual(Engine(TABLES).changed(), {})

    def test_rows_that_come_and_go_and_change(self):
        engine = filled()
        engine.bring_back(2)
        engine.add("edge", (2, "a"))
        # (2, "a") is new; that (1, "a") comes by 2 as well gives it another node.
        self.assertEqual(engine.changed(), {
            "two": [(1, "a")],
            "far": [(1, "a"), (2, "a"), (3, "a")],
        })
        engine.give_up(5)
        self.assertEqual(engine.changed()["two"], [(1, "a")])
        self.assertEqual(engine.node("two", (1, "a")), 0)
        engine.undo()
        self.assertEqual(engine.changed()["two"], [(1, "a")])
        engine.add("node", (7,))
        self.assertEqual(engine.changed(), {})

    def test_a_row_with_another_node(self):
        engine = Engine(TABLES)
        engine.define("v", ("keep", EDGE, (0,)))
        engine.add("edge", (1, 2))
        self.assertEqual(engine.changed(), {"v": [(1,)]})
        engine.add("edge", (1, 3))
        self.assertEqual(engine.changed(), {"v": [(1,)]})
        engine.add("edge", (2, 3))
        self.assertEqual(engine.changed(), {"v": [(2,)]})
        engine.give_up(0)
        self.assertEqual(engine.changed(), {"v": [(1,)]})

    def test_rows_ascend(self):
        engine = Engine(TABLES)
        for value in ("b", "B", 10, -1, 9):
            engine.add("node", (value,))
        engine.add("trio", (0, 0, 0))
        engine.define("v", ("join", NODE, ("keep", ("table", "trio"), ()), ()))
        engine.give_up(5)
        self.assertEqual(engine.changed(), {"v": [(-1,), (9,), (10,), ("B",), ("b",)]})

    def test_views_that_are_new_or_went_are_left_out(self):
        engine = filled()
        engine.add("edge", (9, 1))
        self.assertEqual(list(engine.changed()), ["two", "far"])
        engine.define("new", EDGE)
        self.assertEqual(engine.changed(), {})
        engine.undo()
        self.assertEqual(engine.changed(), {})
        engine.undo()
        self.assertEqual(list(engine.changed()), ["two", "far"])

    def test_another_view_of_the_same_name(self):
        engine = filled()
        engine.define("new", EDGE)
        engine.undo()
        engine.define("new", ("keep", EDGE, (1, 0)))
        self.assertEqual(engine.changed(), {})

    def test_unchanged_behind_errors(self):
        engine = filled()
        self.assertNotEqual(engine.changed(), {})
        self.refused(WrongState, engine, "give_up", 2)
        self.refused(UnknownFact, engine, "bring_back", 77)
        self.refused(UnknownTable, engine, "add", "no", ())
        self.refused(DuplicateView, engine, "define", "two", EDGE)
        empty = Engine(TABLES)
        self.refused(NothingToUndo, empty, "undo")


class BoundsTest(EngineCase):
    def test_200_facts_and_one_more(self):
        engine = Engine([("node", 1), ("edge", 2)])
        engine.define("v", ("keep", NODE, ()))
        for k in range(200):
            self.assertEqual(engine.add("node", (k,)), k)
        self.assertEqual(engine.facts().count(), 200)
        self.refused(TooLarge, engine, "add", "node", (200,))
        self.refused(TooLarge, engine, "add", "edge", (1, 2))
        # The errors of the store of facts come first.
        self.refused(DuplicateFact, engine, "add", "node", (7,))
        self.refused(InvalidArgument, engine, "add", "node", (7, 8))
        self.refused(UnknownTable, engine, "add", "nodes", (7,))
        # Facts that are given up count as well.
        engine.give_up(5)
        self.refused(TooLarge, engine, "add", "node", (200,))
        self.refused(DuplicateFact, engine, "add", "node", (5,))
        engine.bring_back(5)
        engine.undo()
        engine.undo()
        engine.undo()
        self.assertEqual(engine.add("node", (200,)), 199)
        self.refused(TooLarge, engine, "add", "node", (201,))
        self.check_views(engine)

    def test_30_views_and_one_more(self):
        engine = Engine(TABLES)
        engine.add("node", (1,))
        names = ["v" + chr(97 + k // 10) + chr(97 + k % 10) for k in range(30)]
        last = NODE
        for name in names:
            engine.define(name, last)
            last = ("view", name)
        self.assertEqual(engine.views(), names)
        self.refused(TooLarge, engine, "define", "more", NODE)
        self.refused(TooLarge, engine, "define", "more", ("none", 0))
        self.refused(QueryError, engine, "define", "more", ("table", "no"), code="table")
        self.refused(DuplicateView, engine, "define", "vaa", NODE)
        self.refused(InvalidArgument, engine, "define", "MORE", NODE)
        engine.add("node", (2,))
        self.assertEqual(list(engine.changed()), names)
        engine.undo()
        engine.undo()
        engine.define("more", NODE)
        self.refused(TooLarge, engine, "define", "vcj", NODE)
        self.check_views(engine)

    def wide(self, left, right, defined=True):
        """An engine with two tables, and a view that has left times right rows."""
        engine = Engine([("one", 1), ("two", 1)])
        for k in range(left):
            engine.add("one", (k,))
        for k in range(right):
            engine.add("two", (k,))
        if defined:
            engine.define("wide", self.WIDE)
        return engine

    WIDE = ("join", ("table", "one"), ("table", "two"), ())

    def test_2000_rows_and_more_by_add(self):
        engine = self.wide(40, 50)
        self.assertEqual(len(engine.rows("wide")), 2000)
        self.refused(TooLarge, engine, "add", "one", (40,))
        self.refused(TooLarge, engine, "add", "two", (50,))
        self.refused(DuplicateFact, engine, "add", "two", (49,))
        engine.give_up(0)
        self.assertEqual(len(engine.rows("wide")), 1950)
        engine.undo()
        self.assertEqual(len(engine.rows("wide")), 2000)

    def test_2000_rows_and_one_more_by_add(self):
        engine = Engine([("one", 1), ("two", 1), ("more", 2)])
        for k in range(40):
            engine.add("one", (k,))
        for k in range(50):
            engine.add("two", (k,))
        engine.add("more", (0, 0))
        engine.define("wide", ("union", self.WIDE, ("table", "more")))
        self.assertEqual(len(engine.rows("wide")), 2000)
        self.assertEqual(engine.add("more", (0, 1)), 91)
        self.refused(TooLarge, engine, "add", "more", (0, 50))
        self.assertEqual(len(engine.rows("wide")), 2000)

    def test_2000_rows_and_more_by_define(self):
        engine = self.wide(40, 51, False)
        self.refused(TooLarge, engine, "define", "wide", self.WIDE)
        self.assertEqual(engine.views(), [])
        engine.define("less", ("join", ("pick", ("table", "one"), 0, 1), ("table", "two"), ()))
        engine.give_up(0)
        engine.define("wide", self.WIDE)
        self.assertEqual(len(engine.rows("wide")), 39 * 51)
        more = ("union", ("view", "wide"), ("keep", ("table", "two"), (0, 0)))
        # 39 * 51 are 1989 rows, and (0, 0) and those from (40, 40) to (50, 50) are 12 more.
        self.refused(TooLarge, engine, "define", "more", more)

    def test_2000_rows_and_one_more_by_define(self):
        engine = self.wide(40, 50)
        one_more = ("union", ("view", "wide"), ("row", ("one", "more")))
        self.refused(TooLarge, engine, "define", "more", one_more)
        engine.define("same", ("union", ("view", "wide"), ("row", (3, 4))))
        self.assertEqual(len(engine.rows("same")), 2000)
        engine.define("picked", ("pick", one_more, 0, "one"))
        self.assertEqual(engine.rows("picked"), [("one", "more")])

    def test_2000_rows_and_more_by_bring_back(self):
        engine = self.wide(40, 50, False)
        engine.give_up(3)
        engine.define("more", ("union", self.WIDE, ("row", ("one", "more"))))
        self.assertEqual(len(engine.rows("more")), 1951)
        self.refused(TooLarge, engine, "bring_back", 3)
        self.refused(WrongState, engine, "bring_back", 4)
        engine.give_up(4)
        engine.bring_back(3)
        self.assertEqual(len(engine.rows("more")), 1951)
        self.refused(TooLarge, engine, "bring_back", 4)
        engine.undo()
        engine.undo()
        engine.undo()
        engine.bring_back(3)
        self.assertEqual(len(engine.facts().rows("one")), 40)

    def test_a_later_view_that_is_too_large(self):
        engine = self.wide(10, 10)
        engine.define("pairs", ("join", ("view", "wide"), ("table", "one"), ((0, 0),)))
        engine.define("more", ("join", ("view", "wide"), ("table", "two"), ()))
        self.assertEqual(len(engine.rows("more")), 1000)
        for k in range(10, 14):
            engine.add("two", (k,))
        self.assertEqual(len(engine.rows("more")), 1960)
        count = engine.circuits().count()
        self.refused(TooLarge, engine, "add", "two", (14,))
        self.refused(TooLarge, engine, "add", "one", (14,))
        self.assertGreaterEqual(engine.circuits().count(), count)
        self.check_sizes(engine, {"wide": 140, "pairs": 140, "more": 1960})

    def check_sizes(self, engine, sizes):
        self.assertEqual({view: len(engine.rows(view)) for view in engine.views()}, sizes)

    def test_undo_never_goes_beyond(self):
        engine = self.wide(40, 50)
        engine.give_up(7)
        # The store of circuits is full now: undo needs no node.
        circuits = engine.circuits()
        while circuits.count() < 20000:
            circuits.fact(circuits.count() + 1000)
        self.assertIsNone(engine.undo())
        self.check_sizes(engine, {"wide": 2000})
        for _ in range(91):
            engine.undo()
        self.assertEqual((engine.facts().count(), engine.views()), (0, []))

    def test_more_than_20000_nodes(self):
        engine = self.wide(40, 50)
        too_many = ("join", ("view", "wide"), ("table", "one"), ())
        self.refused(TooLarge, engine, "define", "more", ("keep", too_many, ()))
        # The error leaves room for other views, also for such as have nodes of the one refused.
        engine.define("less", ("keep", ("view", "wide"), (0,)))
        engine.define("part", ("join", ("pick", ("view", "wide"), 0, 0), ("table", "one"), ()))
        self.assertEqual(len(engine.rows("part")), 2000)
        self.check_views(engine)


class WorkTest(EngineCase):
    """As long as the work is at most 250, 40 changes raise no TooLarge."""

    def run_through(self, seed, tables, rows, queries):
        """Make 40 changes, each of them leaving the work within 250 (undo does so anyhow)."""
        chance, engine = random.Random(seed), Engine(tables)
        done = 0
        for name, query in queries:
            engine.define(name, query)
            done += 1
        while done < 40:
            facts = engine.facts()
            kind = chance.randrange(7)
            table, row = chance.choice(rows)
            k = facts.find(table, row)
            if kind == 0 and facts.count() > 0:
                engine.undo()
                done += 1
                continue
            if k is None:
                facts.add(table, row)
                change = lambda: engine.add(table, row)
            elif facts.is_there(k):
                if chance.randrange(2):
                    continue
                facts.give_up(k)
                change = lambda: engine.give_up(k)
            else:
                facts.bring_back(k)
                change = lambda: engine.bring_back(k)
            if all_work(facts, engine.queries()) <= 250:
                change()
                done += 1
        self.assertLess(engine.circuits().count(), 20001)
        return engine

    def test_paths_and_repeats(self):
        edges = [("edge", (a, b)) for a in range(5) for b in range(5)]
        for seed in range(8):
            for queries in (
                [("far", ("paths", EDGE))],
                [("far", ("paths", EDGE)), ("further", ("paths", ("view", "far")))],
                [("far", ("paths", ("paths", EDGE))), ("all", ("keep", ("view", "far"), ()))],
                [("rounds", ("repeat", "x", EDGE, ("paths", X), 2))],
                [("rounds", ("repeat", "x", EDGE, STEP, 3)), ("two", TWO)],
                [("rounds", ("repeat", "x", EDGE, ("keep", ("join", X, X, ((1, 0),)), (0, 3)), 2))],
                [("v", ("repeat", "x", EDGE, ("repeat", "y", X, ("union", ("var", "y"), STEP), 2),
                        2))],
            ):
                self.run_through(seed, TABLES, edges, queries)

    def test_dense_paths_that_change_wholly(self):
        # Each row hangs on the sum of all keys: so each change makes all nodes anew.
        keyed = ("keep", ("join", EDGE, ("keep", ("table", "key"), ()), ()), (0, 1))
        engine = Engine([("edge", 2), ("key", 1)])
        engine.define("far", ("paths", keyed))
        engine.add("key", (0,))
        for a in range(4):
            for b in range(4):
                engine.add("edge", (a, b))
        for k in range(1, 23):
            before = nodes_told(engine)["far"]
            engine.add("key", (k,))
            self.assertLessEqual(all_work(engine.facts(), engine.queries()), 250)
            self.assertEqual(engine.changed(), {"far": in_order(list(before))})
        self.check_views(engine)

    def test_views_made_and_undone(self):
        chance = random.Random(5)
        for seed in range(20):
            engine, done = Engine(TABLES), 0
            for row in ((0, 1), (1, 2), (2, 0), (1, 1)):
                engine.add("edge", row)
                done += 1
            while done < 40:
                arities = {view: engine.arity(view) for view in engine.views()}
                if len(arities) > 3 or (arities and chance.randrange(4) == 0):
                    engine.undo()
                    done += 1
                    continue
                query = some_query(chance, chance.randint(0, 3), 8, arities)
                views = {**engine.queries(), "v" + chr(97 + len(arities)): query}
                if all_work(engine.facts(), views) <= 250:
                    engine.define("v" + chr(97 + len(arities)), query)
                    done += 1
            self.check_views(engine, seed)
