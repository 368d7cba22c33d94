import random
import unittest

from everyworth.circuits import worth
from everyworth.engine import Engine
from everyworth.errors import InvalidArgument, NoStar, UnknownView
from everyworth.semirings import Events, Numbers
from everyworth.totals import in_events, in_numbers, totals
from everyworth.values import in_order

from tests.test_circuits import shown
from tests.test_engine import told

SALE = ("table", "sale")


def shop():
    """An engine with sales: who, what and for how much; a text stands in one row of odd."""
    engine = Engine([("sale", 3), ("old", 1)])
    for row in (("ann", "tea", 5), ("bob", "tea", 7), ("ann", "oil", 5), ("ann", "tea", -2),
                (3, "oil", 0), ("bob", "tea", 11)):
        engine.add("sale", row)
    engine.add("old", ("ann",))
    engine.define("sales", SALE)
    engine.define("pay", ("keep", SALE, (0, 2)))
    engine.define("odd", ("union", SALE, ("row", ("bob", "tea", "much"))))
    engine.define("none", ("none", 2))
    engine.define("nil", ("keep", SALE, ()))
    engine.define("twice", ("keep", ("join", SALE, ("table", "old"), ((0, 0),)), (1, 2)))
    engine.give_up(1)
    return engine


def plain_totals(engine, view, columns, column):
    found = {}
    for row in in_order(engine.rows(view)):
        key = tuple(row[place] for place in columns)
        found[key] = found.get(key, ()) + ((engine.node(view, row), row[column]),)
    return found


class TotalsTest(unittest.TestCase):
    def test_groups(self):
        engine = shop()
        node = {row: engine.node("sales", row) for row in engine.rows("sales")}
        ann = [(node["ann", "oil", 5], 5), (node["ann", "tea", -2], -2), (node["ann", "tea", 5], 5)]
        bob = [(node["bob", "tea", 11], 11)]
        three = [(node[3, "oil", 0], 0)]
        self.assertEqual(totals(engine, "sales", (0,), 2),
                         {(3,): tuple(three), ("ann",): tuple(ann), ("bob",): tuple(bob)})
        self.assertEqual(totals(engine, "sales", (), 2), {(): tuple(three + ann + bob)})
        self.assertEqual(totals(engine, "sales", (0, 0), 2),
                         {(3, 3): tuple(three), ("ann",) * 2: tuple(ann), ("bob",) * 2: tuple(bob)})
        self.assertEqual(totals(engine, "sales", (1, 0), 2), {
            ("oil", 3): tuple(three), ("oil", "ann"): tuple(ann[:1]),
            ("tea", "ann"): tuple(ann[1:]), ("tea", "bob"): tuple(bob),
        })
        self.assertEqual(totals(engine, "sales", (2,), 2), {
            (0,): tuple(three), (5,): (ann[0], ann[2]), (-2,): (ann[1],), (11,): tuple(bob),
        })

    def test_rows_with_several_ways(self):
        engine = shop()
        node = engine.node("pay", ("ann", 5))
        self.assertEqual(engine.circuits().shown(node)[0], "plus")
        self.assertEqual(totals(engine, "pay", (0,), 1)[("ann",)],
                         ((engine.node("pay", ("ann", -2)), -2), (node, 5)))

    def test_against_a_plain_grouping(self):
        chance = random.Random(3)
        for _ in range(100):
            engine = Engine([("t", 3)])
            for _ in range(chance.randrange(12)):
                row = (chance.choice([1, "a", "b"]), chance.choice([0, "a"]), chance.randrange(-9, 9))
                if engine.facts().find("t", row) is None:
                    engine.add("t", row)
            engine.define("v", ("keep", ("table", "t"), chance.choice([(0, 1, 2), (1, 0, 2), (0, 0, 2)])))
            columns = tuple(chance.randrange(3) for _ in range(chance.randrange(5)))
            found = totals(engine, "v", columns, 2)
            self.assertEqual(found, plain_totals(engine, "v", columns, 2))
            for total in found.values():
                self.assertIs(type(total), tuple)
                self.assertEqual({type(pair) for pair in total}, {tuple})

    def test_a_view_without_rows(self):
        engine = shop()
        for columns in ((), (0,), (1, 0), (1, 1, 1)):
            self.assertEqual(totals(engine, "none", columns, 0), {})
        with self.assertRaises(InvalidArgument):
            totals(engine, "none", (2,), 0)
        with self.assertRaises(InvalidArgument):
            totals(engine, "none", (0,), 2)

    def test_no_such_column(self):
        engine = shop()
        before = told(engine), shown(engine.circuits())
        for columns, column in (
            ((3,), 2), ((-1,), 2), ((0, 1, 9), 2), ((-3,), 2), ((), 3), ((), -1), ((0,), -3),
            ((0,), 10 ** 9), ((10 ** 9,), 2), ((0, -1), 2), ((5,), 5),
        ):
            with self.assertRaises(InvalidArgument):
                totals(engine, "sales", columns, column)
        for columns in ((), (0,)):
            with self.assertRaises(InvalidArgument):
                totals(engine, "nil", columns, 0)
        self.assertEqual((told(engine), shown(engine.circuits())), before)

    def test_a_text_in_the_column(self):
        engine = shop()
        for columns in ((), (0,), (0, 1, 2)):
            with self.assertRaises(InvalidArgument):
                totals(engine, "odd", columns, 2)
        with self.assertRaises(InvalidArgument):
            totals(engine, "sales", (2,), 0)
        with self.assertRaises(InvalidArgument):
            totals(engine, "sales", (), 1)

    def test_unknown_views(self):
        for view in ("", "sale", "odds"):
            with self.assertRaises(UnknownView):
                totals(shop(), view, (99,), 99)

    def test_what_is_returned_belongs_to_the_caller(self):
        engine = shop()
        found = totals(engine, "sales", (0,), 2)
        found.clear()
        self.assertEqual(len(totals(engine, "sales", (0,), 2)), 3)


class InNumbersTest(unittest.TestCase):
    def test_against_the_worths_of_the_rows(self):
        chance, engine = random.Random(4), shop()
        for _ in range(50):
            worths = {k: chance.randrange(4) for k in range(7)}
            for view, columns, column in (("sales", (0,), 2), ("pay", (), 1), ("twice", (0,), 1)):
                for key, total in totals(engine, view, columns, column).items():
                    rows = [row for row in engine.rows(view) if tuple(row[c] for c in columns) == key]
                    plain = sum(
                        engine.worth(view, row, Numbers(), worths) * row[column] for row in rows
                    )
                    self.assertEqual(in_numbers(engine.circuits(), total, worths), plain)

    def test_small_ones(self):
        engine = shop()
        circuits = engine.circuits()
        total = totals(engine, "sales", (0,), 2)[("ann",)]
        self.assertEqual(in_numbers(circuits, total, {0: 1, 2: 1, 3: 1}), 8)
        self.assertEqual(in_numbers(circuits, total, {0: 0, 2: 10, 3: 1}), 48)
        self.assertEqual(in_numbers(circuits, (), {}), 0)
        self.assertEqual(in_numbers(circuits, ((1, 4), (1, -9), (0, 7)), {}), -5)
        self.assertEqual(in_numbers(circuits, ((engine.node("sales", ("bob", "tea", 11)), 11),) * 2,
                                    {5: 3}), 66)

    def test_no_star(self):
        engine = Engine([("edge", 2)])
        engine.add("edge", (1, 1))
        engine.add("edge", (1, 2))
        engine.define("far", ("paths", ("table", "edge")))
        found = totals(engine, "far", (0,), 1)
        circuits = engine.circuits()
        with self.assertRaises(NoStar):
            in_numbers(circuits, found[(1,)], {0: 1, 1: 1})
        self.assertEqual(in_numbers(circuits, found[(1,)], {0: 0, 1: 3}), 6)
        self.assertEqual(in_events(circuits, found[(1,)], 2, {0: 1, 1: 3}), [3, 2])


class InEventsTest(unittest.TestCase):
    def test_bit_by_bit(self):
        chance, engine = random.Random(6), shop()
        for count in (0, 1, 2, 7, 200):
            for _ in range(5):
                worths = {k: chance.randrange(2 ** count) for k in range(7)}
                for view, columns, column in (("sales", (0,), 2), ("pay", (), 1), ("twice", (), 1)):
                    for total in totals(engine, view, columns, column).values():
                        found = in_events(engine.circuits(), total, count, worths)
                        self.assertIs(type(found), list)
                        self.assertEqual(len(found), count)
                        for bit in range(count):
                            plain = sum(
                                number for node, number in total
                                if worth(engine.circuits(), node, Events(count), worths) >> bit & 1
                            )
                            self.assertEqual(found[bit], plain)

    def test_a_bit_is_one_of_the_worlds_in_which_the_facts_are(self):
        engine = shop()
        total = totals(engine, "pay", (0,), 1)[("ann",)]
        # The facts 0 and 2 are two ways of one row: in each world the row counts once.
        self.assertEqual(in_events(engine.circuits(), total, 4, {0: 3, 2: 5, 3: 9}), [3, 5, 5, -2])

    def test_no_rows_and_no_bits(self):
        circuits = shop().circuits()
        self.assertEqual(in_events(circuits, (), 3, {}), [0, 0, 0])
        self.assertEqual(in_events(circuits, (), 0, {}), [])
        self.assertEqual(in_events(circuits, ((1, 5), (0, 9)), 2, {}), [5, 5])

    def test_what_is_passed_is_not_changed(self):
        engine = shop()
        total = totals(engine, "sales", (), 2)[()]
        worths = {k: 1 for k in range(7)}
        in_events(engine.circuits(), total, 1, worths)
        in_numbers(engine.circuits(), total, worths)
        self.assertEqual(worths, {k: 1 for k in range(7)})


if __name__ == "__main__":
    unittest.main()
