import random
import unittest

from everyworth.errors import (
    DuplicateFact, InvalidArgument, UnknownFact, UnknownTable, WrongState,
)
from everyworth.facts import Facts

TABLES = [("edge", 2), ("node", 1), ("quad", 4)]


def shown(store):
    """All that a store tells, to compare it before and after."""
    tables = store.tables()
    facts = [(store.fact(k), store.is_there(k)) for k in range(store.count())]
    found = [store.find(table, row) for (table, row), _ in facts]
    return tables, facts, found, [(store.arity(t), store.rows(t)) for t, _ in tables]


def filled():
    store = Facts(TABLES)
    store.add("edge", (1, 2))
    store.add("node", ("a",))
    store.add("edge", (2, 1))
    store.add("edge", (1, "2"))
    store.give_up(2)
    return store


class FactsCase(unittest.TestCase):
    def refused(self, error, store, method, *args):
        """Check that a call raises exactly this error, and that nothing changes."""
        before = shown(store)
        with self.assertRaises(error) as caught:
            getattr(store, method)(*args)
        self.assertIs(type(caught.exception), error)
        self.assertEqual(shown(store), before)


class TablesTest(FactsCase):
    def test_tables_and_arities(self):
        store = Facts(TABLES)
        self.assertEqual(store.tables(), TABLES)
        self.assertEqual([store.arity(name) for name, _ in TABLES], [2, 1, 4])
        self.assertEqual(Facts([]).tables(), [])
        self.assertEqual(Facts([("b", 1), ("a", 1)]).tables(), [("b", 1), ("a", 1)])

    def test_arities_in_range(self):
        for arity in (1, 2, 3, 4):
            self.assertEqual(Facts([("t", arity)]).arity("t"), arity)

    def test_arities_out_of_range(self):
        for arity in (-1, 0, 5, 6, 100):
            with self.assertRaises(InvalidArgument):
                Facts([("t", arity)])
            with self.assertRaises(InvalidArgument):
                Facts([("s", 1), ("t", arity)])

    def test_malformed_names(self):
        for name in ("", "a" * 13, "A", "a b", "t1", "a_b", " a", "a\n"):
            with self.assertRaises(InvalidArgument):
                Facts([(name, 1)])
            with self.assertRaises(InvalidArgument):
                Facts([("t", 2), (name, 1)])
        self.assertEqual(Facts([("a" * 12, 1)]).arity("a" * 12), 1)

    def test_a_name_twice(self):
        for tables in ([("t", 1), ("t", 1)], [("t", 1), ("s", 2), ("t", 2)]):
            with self.assertRaises(InvalidArgument):
                Facts(tables)

    def test_unknown_tables(self):
        store = filled()
        for table in ("", "edges", "edg", "EDGE", "fact"):
            self.refused(UnknownTable, store, "arity", table)
            self.refused(UnknownTable, store, "rows", table)
            self.refused(UnknownTable, store, "find", table, (1, 2))
            self.refused(UnknownTable, store, "add", table, (1, 2))

    def test_what_is_passed_and_returned_is_not_kept(self):
        tables = [("edge", 2)]
        store = Facts(tables)
        tables.append(("node", 1))
        tables[0] = ("else", 3)
        self.assertEqual(store.tables(), [("edge", 2)])
        told = store.tables()
        told.append(("node", 1))
        told[0] = ("else", 3)
        self.assertEqual(store.tables(), [("edge", 2)])
        self.refused(UnknownTable, store, "arity", "node")
        tables = [("edge", 2), ("node", 1)]
        Facts(tables)
        self.assertEqual(tables, [("edge", 2), ("node", 1)])


class AddTest(FactsCase):
    def test_numbers_in_order(self):
        store = Facts(TABLES)
        self.assertEqual(store.count(), 0)
        self.assertEqual(store.add("edge", (1, 2)), 0)
        self.assertEqual(store.add("node", (1,)), 1)
        self.assertEqual(store.add("edge", (2, 1)), 2)
        self.assertEqual(store.add("quad", (1, "a", 1, "a")), 3)
        self.assertEqual(store.count(), 4)
        self.assertEqual(store.fact(0), ("edge", (1, 2)))
        self.assertEqual(store.fact(1), ("node", (1,)))
        self.assertEqual(store.fact(3), ("quad", (1, "a", 1, "a")))
        self.assertIs(type(store.fact(0)), tuple)

    def test_a_fact_that_is_added_is_there(self):
        store = Facts(TABLES)
        store.add("node", (1,))
        self.assertIs(store.is_there(0), True)
        self.assertEqual(store.rows("node"), [(0, (1,))])

    def test_one_row_in_two_tables(self):
        store = Facts([("s", 1), ("t", 1)])
        self.assertEqual(store.add("s", (1,)), 0)
        self.assertEqual(store.add("t", (1,)), 1)
        self.assertEqual((store.find("s", (1,)), store.find("t", (1,))), (0, 1))

    def test_integers_and_texts_differ(self):
        store = Facts([("t", 1)])
        self.assertEqual([store.add("t", (1,)), store.add("t", ("1",))], [0, 1])

    def test_rows_of_another_length(self):
        store = filled()
        for row in ((), (1,), (1, 2, 3), (1, 2, 3, 4)):
            self.refused(InvalidArgument, store, "add", "edge", row)
        self.refused(InvalidArgument, store, "add", "node", ())
        self.refused(InvalidArgument, store, "add", "quad", (1, 2, 3, 4, 5))

    def test_doubles(self):
        store = filled()
        self.refused(DuplicateFact, store, "add", "edge", (1, 2))
        self.refused(DuplicateFact, store, "add", "node", ("a",))

    def test_doubles_of_facts_given_up(self):
        store = filled()
        self.assertIs(store.is_there(2), False)
        self.refused(DuplicateFact, store, "add", "edge", (2, 1))

    def test_order_of_errors(self):
        store = filled()
        self.refused(UnknownTable, store, "add", "none", ())
        self.refused(UnknownTable, store, "add", "none", (1, 2))
        self.refused(InvalidArgument, store, "add", "edge", (1,))

    def test_numbers_after_errors(self):
        store = filled()
        self.refused(DuplicateFact, store, "add", "edge", (1, 2))
        self.refused(InvalidArgument, store, "add", "edge", (1,))
        self.assertEqual(store.add("edge", (7, 7)), 4)


class StateTest(FactsCase):
    def test_give_up_and_bring_back(self):
        store = filled()
        self.assertEqual([store.is_there(k) for k in range(4)], [True, True, False, True])
        self.assertIsNone(store.give_up(0))
        self.assertIs(store.is_there(0), False)
        self.assertIsNone(store.bring_back(2))
        self.assertIs(store.is_there(2), True)
        self.assertEqual(store.rows("edge"), [(2, (2, 1)), (3, (1, "2"))])
        store.bring_back(0)
        self.assertEqual(store.rows("edge"), [(0, (1, 2)), (2, (2, 1)), (3, (1, "2"))])
        self.assertEqual(store.count(), 4)

    def test_wrong_states(self):
        store = filled()
        self.refused(WrongState, store, "give_up", 2)
        self.refused(WrongState, store, "bring_back", 0)
        store.bring_back(2)
        self.refused(WrongState, store, "bring_back", 2)
        store.give_up(0)
        self.refused(WrongState, store, "give_up", 0)

    def test_unknown_facts(self):
        for store in (Facts(TABLES), filled()):
            for number in (-4, -2, -1, store.count(), store.count() + 1, 10 ** 30):
                for method in ("give_up", "bring_back", "fact", "is_there"):
                    self.refused(UnknownFact, store, method, number)

    def test_the_last_number_is_known(self):
        store = filled()
        self.assertEqual(store.fact(3), ("edge", (1, "2")))
        store.give_up(3)
        self.assertIs(store.is_there(3), False)

    def test_a_given_up_fact_is_still_told(self):
        store = filled()
        self.assertEqual(store.fact(2), ("edge", (2, 1)))
        self.assertEqual(store.find("edge", (2, 1)), 2)
        self.assertEqual(store.count(), 4)


class FindTest(FactsCase):
    def test_find(self):
        store = filled()
        self.assertEqual(store.find("edge", (1, 2)), 0)
        self.assertEqual(store.find("edge", (1, "2")), 3)
        self.assertEqual(store.find("node", ("a",)), 1)

    def test_find_nothing(self):
        store = filled()
        self.assertIsNone(store.find("edge", (2, 2)))
        self.assertIsNone(store.find("node", (1,)))
        self.assertIsNone(store.find("node", (1, 2)))
        self.assertIsNone(store.find("edge", ()))

    def test_rows(self):
        store = filled()
        self.assertEqual(store.rows("edge"), [(0, (1, 2)), (3, (1, "2"))])
        self.assertEqual(store.rows("node"), [(1, ("a",))])
        self.assertEqual(store.rows("quad"), [])

    def test_rows_belong_to_the_caller(self):
        store = filled()
        told = store.rows("edge")
        told.clear()
        self.assertEqual(store.rows("edge"), [(0, (1, 2)), (3, (1, "2"))])
        self.assertEqual(shown(store), shown(filled()))


class CopyTest(FactsCase):
    def test_a_copy_is_equal(self):
        store = filled()
        self.assertEqual(shown(store.copy()), shown(store))
        self.assertIs(type(store.copy()), Facts)
        self.assertEqual(shown(Facts([]).copy()), shown(Facts([])))

    def test_a_copy_is_independent(self):
        store = filled()
        twin = store.copy()
        before = shown(store)
        twin.add("edge", (9, 9))
        twin.give_up(0)
        twin.bring_back(2)
        self.assertEqual(shown(store), before)
        told = shown(twin)
        store.give_up(1)
        store.give_up(3)
        store.add("node", (5,))
        self.assertEqual(shown(twin), told)
        self.assertIsNone(twin.find("node", (5,)))

    def test_copy_of_a_copy(self):
        store = filled().copy().copy()
        self.assertEqual(store.add("node", (1,)), 4)
        self.refused(DuplicateFact, store, "add", "edge", (2, 1))
        self.refused(WrongState, store, "give_up", 2)


class LongRunTest(FactsCase):
    def test_against_a_plain_list(self):
        chance = random.Random(1)
        store, plain = Facts([("s", 1), ("t", 2)]), []
        for _ in range(600):
            deed = chance.randrange(3)
            if deed == 0:
                table = chance.choice(["s", "t"])
                row = tuple(chance.choice([0, 1, 2, "a", "b"]) for _ in range(1 + (table == "t")))
                if any(entry[:2] == [table, row] for entry in plain):
                    self.refused(DuplicateFact, store, "add", table, row)
                else:
                    self.assertEqual(store.add(table, row), len(plain))
                    plain.append([table, row, True])
                continue
            number = chance.randrange(-1, len(plain) + 1)
            method = "give_up" if deed == 1 else "bring_back"
            if not 0 <= number < len(plain):
                self.refused(UnknownFact, store, method, number)
            elif plain[number][2] != (deed == 1):
                self.refused(WrongState, store, method, number)
            else:
                self.assertIsNone(getattr(store, method)(number))
                plain[number][2] = deed == 2
            for table in ("s", "t"):
                rows = [(k, r) for k, (t, r, there) in enumerate(plain) if t == table and there]
                self.assertEqual(store.rows(table), rows)
        self.assertEqual(store.count(), len(plain))
