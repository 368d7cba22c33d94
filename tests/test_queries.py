import random
import unittest

from everyworth.errors import QueryError
from everyworth.queries import arity_of, names_in, view_arities, views_needed

from tests.plain import TABLES, some_query, some_views

ARITIES = {"node": 1, "edge": 2, "trio": 3, "quad": 4}
VIEWS = {"va": 0, "vb": 2, "vc": 6}
EDGE, NODE, TRIO, QUAD = (("table", name) for name in ("edge", "node", "trio", "quad"))
X, Y = ("var", "x"), ("var", "y")


def code_of(query, tables=ARITIES, views=VIEWS):
    """The code that the check of a query raises, or None."""
    try:
        arity_of(query, tables, views)
    except QueryError as error:
        return error.code
    return None


def nested(many, kind="same"):
    """So many queries within one another."""
    query = EDGE
    for _ in range(many - 1):
        query = {
            "same": ("same", query, 0, 1), "pick": ("pick", query, 0, 1),
            "keep": ("keep", query, (0, 1)), "paths": ("paths", query),
            "left": ("union", query, EDGE), "right": ("union", EDGE, query),
            "first": ("join", query, ("row", ()), ()), "second": ("join", ("row", ()), query, ()),
            "base": ("repeat", "x", query, X, 2), "step": ("repeat", "x", EDGE, query, 2),
        }[kind]
    return query


KINDS = ("same", "pick", "keep", "paths", "left", "right", "first", "second", "base", "step")
# A query of two columns with each of the codes, and the part that fails standing alone.
FAULTS = {
    "form": ("tables", "edge"), "deep": nested(13), "table": ("keep", ("table", "no"), ()),
    "view": ("keep", ("view", "no"), ()), "variable": ("keep", ("var", "no"), ()),
    "column": ("keep", EDGE, (0, 2)), "arity": ("union", EDGE, NODE),
}


class ArityTest(unittest.TestCase):
    def check(self, query, arity):
        self.assertEqual(arity_of(query, ARITIES, VIEWS), arity, query)

    def test_tables_and_views(self):
        for name, arity in ARITIES.items():
            self.check(("table", name), arity)
        for name, arity in VIEWS.items():
            self.check(("view", name), arity)
        self.assertEqual(arity_of(("view", "edge"), {}, {"edge": 5}), 5)
        self.assertEqual(arity_of(("table", "a" * 12), {"a" * 12: 1}, {}), 1)

    def test_rows_and_none(self):
        for arity in range(7):
            self.check(("row", (1, "a", -2, "", "b c", 10 ** 30)[:arity]), arity)
            self.check(("none", arity), arity)

    def test_pick_and_same(self):
        for column in (0, 1, 2):
            self.check(("pick", TRIO, column, "x"), 3)
            self.check(("same", TRIO, column, 2 - column), 3)
        self.check(("pick", ("row", (1,)), 0, -5), 1)

    def test_keep(self):
        self.check(("keep", EDGE, ()), 0)
        self.check(("keep", EDGE, (1,)), 1)
        self.check(("keep", EDGE, (1, 0, 1, 1, 0, 0)), 6)
        self.check(("keep", ("view", "vc"), (5,)), 1)
        self.check(("keep", ("view", "va"), ()), 0)

    def test_join(self):
        self.check(("join", EDGE, NODE, ()), 3)
        self.check(("join", EDGE, NODE, ((1, 0), (0, 0), (1, 0))), 3)
        self.check(("join", EDGE, QUAD, ((1, 3),)), 6)
        self.check(("join", ("view", "vc"), ("view", "va"), ()), 6)
        self.check(("join", ("none", 0), ("none", 0), ()), 0)

    def test_union_and_paths(self):
        self.check(("union", EDGE, ("view", "vb")), 2)
        self.check(("union", ("none", 6), ("view", "vc")), 6)
        self.check(("paths", EDGE), 2)
        self.check(("paths", ("paths", ("none", 2))), 2)

    def test_repeat(self):
        for n in range(9):
            self.check(("repeat", "x", EDGE, X, n), 2)
        self.check(("repeat", "x", ("none", 0), X, 3), 0)
        step = ("keep", ("join", X, EDGE, ((1, 0),)), (0, 3))
        self.check(("repeat", "x", EDGE, step, 8), 2)

    def test_variables_in_their_scope(self):
        # The step of the inner one means the inner x, its base the outer one.
        inner = ("repeat", "x", ("keep", X, (0,)), ("keep", X, (0,)), 1)
        self.check(("repeat", "x", EDGE, ("join", inner, inner, ()), 2), 2)
        # Behind the inner one the outer x is known again.
        step = ("union", ("join", inner, NODE, ()), X)
        self.check(("repeat", "x", EDGE, step, 2), 2)
        both = ("union", X, ("keep", Y, (0, 0)))
        self.check(("repeat", "x", EDGE, ("repeat", "y", X, both, 1), 1), 2)

    def test_each_kind_within_each_other(self):
        chance = random.Random(1)
        for _ in range(300):
            queries, arities = some_views(chance, 3, 4)
            arity = chance.randint(0, 4)
            query = some_query(chance, arity, 8, arities)
            self.assertEqual(arity_of(query, dict(TABLES), arities), arity, query)
            found = view_arities(query, dict(TABLES), queries)
            self.assertEqual(found, {name: arities[name] for name in found})

    def test_what_is_passed_is_not_changed(self):
        tables, views = dict(ARITIES), dict(VIEWS)
        arity_of(("repeat", "x", EDGE, ("union", X, ("view", "vb")), 2), tables, views)
        self.assertEqual((tables, views), (ARITIES, VIEWS))


class FormTest(unittest.TestCase):
    def test_no_query_at_all(self):
        for query in ((), (1,), ("",), (("table",),), ("table",), (0, "edge"), ("edge",), ((),),
                      ("TABLE", "edge"), ("table ", "edge"), ("tables", "edge"), ("facts", "edge"),
                      (("table", "edge"),), ((("table", "edge"),),), (1, 2, 3), ("x", 1, 2)):
            self.assertEqual(code_of(query), "form", query)

    def test_a_part_too_few_or_too_many(self):
        for query in (EDGE, ("view", "vb"), ("row", (1,)), ("none", 2), ("pick", EDGE, 0, 1),
                      ("same", EDGE, 0, 1), ("keep", EDGE, (0,)), ("join", EDGE, NODE, ()),
                      ("union", EDGE, EDGE), ("repeat", "x", EDGE, X, 1), ("paths", EDGE)):
            self.assertIsNone(code_of(query), query)
            for other in (query[:-1], query + (0,), query + (EDGE,), query + ("a",), query[:1],
                          query[1:], ("keeps",) + query[1:], query[:1] + query):
                self.assertEqual(code_of(other), "form", other)

    def test_malformed_names(self):
        for name in ("", "A", "aB", "a1", "a b", "a_", "a" * 13, 1, 0, (), ("a",), EDGE):
            for query in (("table", name), ("view", name), ("var", name),
                          ("repeat", name, EDGE, EDGE, 1)):
                self.assertEqual(code_of(query), "form", query)

    def test_malformed_rows(self):
        for row in (1, "a", "", (1,) * 7, ((),), ((1,),), (1, (2,)), ("a" * 21,), (1, "\n"),
                    ("100" + chr(37),), (1, "\x7f")):
            self.assertEqual(code_of(("row", row)), "form", row)
        self.assertIsNone(code_of(("row", ("a" * 20, "~ ", -1))))

    def test_arities_of_none(self):
        for arity in (-1, 7, 8, 100, "2", "", (), (2,)):
            self.assertEqual(code_of(("none", arity)), "form", arity)
        for arity in (0, 1, 6):
            self.assertIsNone(code_of(("none", arity)))

    def test_malformed_columns_and_values(self):
        for column in ("0", "", (), (0,), "a"):
            self.assertEqual(code_of(("pick", EDGE, column, 1)), "form")
            self.assertEqual(code_of(("same", EDGE, column, 1)), "form")
            self.assertEqual(code_of(("same", EDGE, 1, column)), "form")
            self.assertEqual(code_of(("keep", EDGE, (0, column))), "form")
            self.assertEqual(code_of(("join", EDGE, EDGE, ((0, 0), (column, 0)))), "form")
            self.assertEqual(code_of(("join", EDGE, EDGE, ((0, 0), (0, column)))), "form")
        for value in ((), (1,), "a" * 21, "\t", chr(37)):
            self.assertEqual(code_of(("pick", EDGE, 0, value)), "form", value)

    def test_malformed_tuples_of_columns(self):
        for columns in (0, 1, "", "01", "0"):
            self.assertEqual(code_of(("keep", EDGE, columns)), "form", columns)
            self.assertEqual(code_of(("join", EDGE, EDGE, columns)), "form", columns)
        for pairs in ((0, 0), ((0,),), ((0, 0, 0),), ((),), ("ab",), ("00",), ((0, 0), 1),
                      (((0, 0),),)):
            self.assertEqual(code_of(("join", EDGE, EDGE, pairs)), "form", pairs)

    def test_rounds(self):
        for n in (-1, 9, 10, -8, 10 ** 20, "1", "", (), (1,), EDGE):
            self.assertEqual(code_of(("repeat", "x", EDGE, EDGE, n)), "form", n)
        for n in (0, 8):
            self.assertIsNone(code_of(("repeat", "x", EDGE, EDGE, n)))

    def test_queries_within_that_are_none(self):
        for thing in (1, "edge", "", (), ("edge",), (1,), ("none", 7)):
            for query in (("pick", thing, 0, 1), ("same", thing, 0, 0), ("keep", thing, ()),
                          ("join", thing, EDGE, ()), ("join", EDGE, thing, ()), ("paths", thing),
                          ("union", thing, EDGE), ("union", EDGE, thing),
                          ("repeat", "x", thing, X, 1), ("repeat", "x", EDGE, thing, 0)):
                self.assertEqual(code_of(query), "form", query)

    def test_as_deep_as_it_likes(self):
        thing = 0
        for _ in range(39):
            thing = (thing,)
        for query in (thing, (thing,), ("row", thing), ("none", thing), ("table", thing),
                      ("keep", EDGE, thing), ("join", EDGE, EDGE, thing), ("paths", thing),
                      ("pick", EDGE, 0, thing), ("pick", EDGE, thing, 0), (thing, EDGE),
                      ("repeat", thing, EDGE, EDGE, 1), ("repeat", "x", EDGE, EDGE, thing)):
            self.assertEqual(code_of(query), "form")


class DeepTest(unittest.TestCase):
    def test_twelve_and_thirteen(self):
        for kind in KINDS:
            self.assertEqual(arity_of(nested(12, kind), ARITIES, VIEWS), 2, kind)
            self.assertEqual(code_of(nested(13, kind)), "deep", kind)
            for many in (14, 20, 38):
                self.assertEqual(code_of(nested(many, kind)), "deep", kind)

    def test_deep_ahead_of_what_is_within(self):
        query = ("paths", ("nothing", 1))
        for _ in range(12):
            query = ("paths", query)
        self.assertEqual(code_of(query), "deep")

    def test_form_ahead_of_deep(self):
        query = ("nothing", 1)
        for _ in range(12):
            query = ("paths", query)
        self.assertEqual(code_of(query), "form")


class NamesTest(unittest.TestCase):
    def test_unknown_tables_and_views(self):
        for name in ("no", "vb", "edges"):
            self.assertEqual(code_of(("table", name)), "table")
        for name in ("no", "edge", "vbb"):
            self.assertEqual(code_of(("view", name)), "view")
        self.assertEqual(code_of(EDGE, {}, {"edge": 2}), "table")
        self.assertEqual(code_of(("view", "edge"), {"edge": 2}, {}), "view")

    def test_variables_out_of_their_scope(self):
        for query in (
            X, ("paths", X), ("repeat", "x", X, EDGE, 1), ("repeat", "x", EDGE, Y, 1),
            ("union", ("repeat", "x", EDGE, X, 1), X), ("union", X, ("repeat", "x", EDGE, X, 1)),
            ("repeat", "y", ("repeat", "x", EDGE, X, 1), X, 1),
            ("repeat", "y", EDGE, ("union", ("repeat", "x", Y, X, 1), X), 1),
            ("repeat", "x", ("repeat", "y", X, Y, 1), X, 1), ("var", "edge"), ("var", "vb"),
            ("repeat", "x", ("repeat", "x", X, EDGE, 0), X, 0),
        ):
            self.assertEqual(code_of(query), "variable", query)

    def test_the_same_name_again(self):
        # The outer x has two columns, the inner one has one.
        inner = ("repeat", "x", NODE, ("pick", X, 1, 5), 1)
        self.assertEqual(code_of(("repeat", "x", EDGE, ("join", inner, NODE, ()), 1)), "column")
        inner = ("repeat", "x", ("keep", X, (1,)), X, 1)
        step = ("join", inner, ("keep", X, (1,)), ())
        self.assertIsNone(code_of(("repeat", "x", EDGE, step, 1)))


class ColumnTest(unittest.TestCase):
    def test_columns_that_there_are_not(self):
        for column in (-1, -2, 2, 3, 10 ** 20, -10 ** 20):
            for query in (
                ("pick", EDGE, column, 1), ("same", EDGE, column, 0), ("same", EDGE, 0, column),
                ("keep", EDGE, (column,)), ("keep", EDGE, (0, 1, column)),
                ("join", EDGE, TRIO, ((column, 2),)), ("join", TRIO, EDGE, ((2, column),)),
                ("join", EDGE, EDGE, ((0, 0), (1, column))),
                ("join", EDGE, EDGE, ((0, 0), (column, 1))),
            ):
                self.assertEqual(code_of(query), "column", query)

    def test_rows_without_columns(self):
        empty = ("row", ())
        for query in (("pick", empty, 0, 1), ("same", empty, 0, 0), ("keep", empty, (0,)),
                      ("join", empty, EDGE, ((0, 0),)), ("join", EDGE, empty, ((0, 0),))):
            self.assertEqual(code_of(query), "column", query)

    def test_each_side_has_its_own_columns(self):
        self.assertIsNone(code_of(("join", NODE, TRIO, ((0, 2),))))
        self.assertEqual(code_of(("join", NODE, TRIO, ((2, 0),))), "column")


class WrongArityTest(unittest.TestCase):
    def test_sides_of_union(self):
        for query in (("union", EDGE, NODE), ("union", ("none", 0), NODE),
                      ("union", ("row", ()), ("row", (1,)))):
            self.assertEqual(code_of(query), "arity", query)

    def test_base_and_step(self):
        for query in (("repeat", "x", EDGE, NODE, 1), ("repeat", "x", EDGE, NODE, 0),
                      ("repeat", "x", EDGE, ("keep", X, (0,)), 1)):
            self.assertEqual(code_of(query), "arity", query)

    def test_paths(self):
        for query in (NODE, TRIO, ("none", 0), ("row", ())):
            self.assertEqual(code_of(("paths", query)), "arity", query)

    def test_more_than_six(self):
        self.assertEqual(code_of(("keep", EDGE, (0, 1, 0, 1, 0, 1, 0))), "arity")
        self.assertEqual(code_of(("join", TRIO, QUAD, ())), "arity")
        self.assertEqual(code_of(("join", ("view", "vc"), NODE, ())), "arity")
        self.assertIsNone(code_of(("join", TRIO, TRIO, ())))


class OrderTest(unittest.TestCase):
    def test_each_fault_alone(self):
        for code, query in FAULTS.items():
            self.assertEqual(code_of(query), code)

    def test_left_before_right(self):
        for first, left in FAULTS.items():
            for second, right in FAULTS.items():
                # One level down, the deep one is deep still.
                self.assertEqual(code_of(("union", left, right)), first)
                self.assertEqual(code_of(("join", left, right, ())), first)
                self.assertEqual(code_of(("repeat", "x", left, right, 1)), first)
                within = ("join", ("keep", left, ()), right, ())
                self.assertEqual(code_of(within), first, (first, second))
                within = ("join", left, ("keep", right, ()), ())
                self.assertEqual(code_of(within), first, (first, second))

    def test_what_is_within_before_the_names_columns_and_arities_around_it(self):
        for code, query in FAULTS.items():
            for around in (
                ("pick", query, 7, 1), ("same", query, -1, 0), ("keep", query, (9,) * 7),
                ("join", query, QUAD, ((9, 9),)), ("join", QUAD, query, ((9, 9),)),
                ("union", NODE, query), ("union", query, NODE), ("repeat", "x", NODE, query, 1),
                ("repeat", "x", query, NODE, 1), ("paths", ("keep", query, (0,))),
            ):
                self.assertEqual(code_of(around), code, around)

    def test_form_before_what_is_within(self):
        for query in FAULTS.values():
            for around in (
                ("pick", query, "0", 1), ("same", query, 0, ""), ("keep", query, ("",)),
                ("join", query, EDGE, ((0,),)), ("union", query), ("paths", query, 1),
                ("repeat", "X", query, EDGE, 1), ("repeat", "x", query, EDGE, 9),
            ):
                self.assertEqual(code_of(around), "form", around)

    def test_columns_before_arities(self):
        self.assertEqual(code_of(("keep", EDGE, (0, 1, 0, 1, 0, 1, 2))), "column")
        self.assertEqual(code_of(("keep", EDGE, (-1,) * 7)), "column")
        self.assertEqual(code_of(("join", QUAD, QUAD, ((0, 4),))), "column")

    def test_deep_before_names(self):
        query = ("table", "no")
        for _ in range(12):
            query = ("paths", query)
        self.assertEqual(code_of(query), "deep")
        self.assertEqual(code_of(query[1]), "table")

    def test_base_before_step(self):
        self.assertEqual(code_of(("repeat", "x", ("table", "no"), ("view", "no"), 1)), "table")
        self.assertEqual(code_of(("repeat", "x", ("view", "no"), ("none", 7), 1)), "view")


class NamesInTest(unittest.TestCase):
    def test_names_alone(self):
        self.assertEqual(names_in(EDGE, "table"), ["edge"])
        self.assertEqual(names_in(EDGE, "view"), [])
        self.assertEqual(names_in(("view", "v"), "view"), ["v"])
        self.assertEqual(names_in(("view", "v"), "table"), [])
        for query in (X, ("row", ("table", "edge")), ("none", 3)):
            self.assertEqual((names_in(query, "table"), names_in(query, "view")), ([], []))

    def test_names_in_every_place(self):
        for kind in ("table", "view"):
            other = {"table": "view", "view": "table"}[kind]
            a, b, none = (kind, "a"), (kind, "b"), ("none", 2)
            for query, names in (
                (("pick", a, 0, "b"), ["a"]), (("same", a, 0, 1), ["a"]), (("keep", a, ()), ["a"]),
                (("join", b, a, ()), ["a", "b"]), (("join", none, a, ()), ["a"]),
                (("join", a, none, ()), ["a"]), (("union", b, a), ["a", "b"]),
                (("union", none, b), ["b"]), (("union", b, none), ["b"]), (("paths", b), ["b"]),
                (("repeat", "x", b, a, 2), ["a", "b"]), (("repeat", "x", b, a, 0), ["a", "b"]),
                (("repeat", "a", b, ("var", "a"), 1), ["b"]),
                (("repeat", "x", X, ("paths", a), 1), ["a"]),
            ):
                self.assertEqual(names_in(query, kind), names, query)
                self.assertEqual(names_in(query, other), [], query)

    def test_names_that_occur_several_times(self):
        twice = ("union", EDGE, ("union", ("view", "b"), EDGE))
        query = ("union", ("join", twice, ("keep", NODE, ()), ()), ("union", twice, ("view", "a")))
        self.assertEqual(names_in(query, "table"), ["edge", "node"])
        self.assertEqual(names_in(query, "view"), ["a", "b"])

    def test_values_are_no_names(self):
        for query in (("pick", EDGE, 0, "table"), ("union", EDGE, ("row", ("table", "no"))),
                      ("join", EDGE, ("row", ("view", "no")), ()), ("repeat", "no", EDGE, EDGE, 1)):
            self.assertEqual((names_in(query, "table"), names_in(query, "view")), (["edge"], []))

    def test_many_and_deep(self):
        names = ["a" * k for k in range(1, 13)]
        query = ("table", "b")
        for name in names + names:
            query = ("union", query, ("table", name))
        self.assertEqual(names_in(query, "table"), names + ["b"])
        self.assertEqual(names_in(nested(38), "table"), ["edge"])

    def test_the_list_belongs_to_the_caller(self):
        names_in(EDGE, "table").append("more")
        self.assertEqual(names_in(EDGE, "table"), ["edge"])


class ViewsNeededTest(unittest.TestCase):
    def test_each_behind_those_that_it_needs(self):
        views = {
            "c": ("union", ("view", "b"), ("view", "a")), "b": ("paths", ("view", "a")),
            "a": EDGE, "d": ("view", "c"), "e": EDGE,
        }
        self.assertEqual(views_needed(("view", "d"), views, False), ["a", "b", "c", "d"])
        self.assertEqual(views_needed(EDGE, views, False), [])
        needed = views_needed(("union", ("view", "e"), ("view", "b")), views, True)
        self.assertEqual(sorted(needed), ["a", "b", "e"])
        self.assertLess(needed.index("a"), needed.index("b"))

    def test_repeats_without_rounds(self):
        query = ("union", ("repeat", "x", ("view", "a"), ("view", "b"), 0), ("view", "c"))
        views = {"a": EDGE, "b": EDGE, "c": EDGE}
        self.assertEqual(views_needed(query, views, False), ["c"])
        self.assertEqual(sorted(views_needed(query, views, True)), ["a", "b", "c"])
        once = ("repeat", "x", ("view", "a"), ("view", "b"), 1)
        self.assertEqual(sorted(views_needed(once, views, False)), ["a", "b"])
