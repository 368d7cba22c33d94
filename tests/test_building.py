import random
import unittest

from everyworth.building import circuits_of
from everyworth.circuits import Circuits, nodes_within, worth
from everyworth.errors import NoStar, TooLarge
from everyworth.facts import Facts
from everyworth.meaning import meaning
from everyworth.polynomials import Polynomials, variable
from everyworth.semirings import Costs, Events, Levels, Numbers
from everyworth.whys import Whys

from tests.plain import capped, field, plain_rows, some_facts, some_query, some_views
from tests.test_circuits import shown

EDGE, NODE = ("table", "edge"), ("table", "node")
X = ("var", "x")
STEP = ("keep", ("join", X, EDGE, ((1, 0),)), (0, 3))
# Each with a way to choose worths; the first ones have stars of all that is chosen.
RINGS = [
    (capped(3), range(4)), (Costs(), [None, 0, 1, 5]), (Levels(3), range(4)),
    (Events(4), range(16)), (Whys(), [(), ((),), ((0,), (1, 2)), ((3,),)]),
    (field(5), range(5)), (field(7), range(7)), (Numbers(), range(4)),
]


def store(edges=(), nodes=()):
    facts = Facts([("edge", 2), ("node", 1), ("trio", 3)])
    for row in edges:
        facts.add("edge", row)
    for value in nodes:
        facts.add("node", (value,))
    return facts


class BuildingCase(unittest.TestCase):
    def check(self, query, facts, views, seed=0):
        """Check rows and worths against the meaning; return the nodes and their store."""
        chance, circuits = random.Random(seed), Circuits()
        nodes = circuits_of(query, facts, views, circuits)
        self.assertEqual(set(nodes), plain_rows(query, facts, views)[0])
        there = [k for k in range(facts.count()) if facts.is_there(k)]
        for semiring, choice in RINGS:
            worths = {k: chance.choice(list(choice)) for k in there}
            try:
                rows = meaning(query, facts, views, semiring, worths)
            except NoStar:
                self.assertNotIn(semiring, [ring for ring, _ in RINGS[:5]])
                continue
            found = {row: worth(circuits, nodes[row], semiring, worths) for row in nodes}
            self.assertEqual(found, rows, query)
        for node in nodes.values():
            self.assertTrue(set(circuits.facts_in(node)) <= set(there))
        return nodes, circuits


class KindsTest(BuildingCase):
    def setUp(self):
        self.facts = store([(1, 2), (2, 2), (2, "a"), (1, "a"), ("a", 1)], [2, "a", 7])
        self.facts.give_up(3)

    def test_each_kind(self):
        paths = ("paths", EDGE)
        for query in (
            EDGE, NODE, ("table", "trio"), ("row", (1, "b")), ("row", ()), ("none", 3),
            ("pick", EDGE, 0, 2), ("pick", EDGE, 1, "2"), ("same", EDGE, 0, 1),
            ("keep", EDGE, (0,)), ("keep", EDGE, ()), ("keep", EDGE, (1, 1, 0)),
            ("join", EDGE, NODE, ((1, 0),)), ("join", EDGE, EDGE, ((0, 0), (1, 1))),
            ("join", NODE, NODE, ()), ("join", NODE, ("none", 2), ()),
            ("union", NODE, ("keep", EDGE, (1,))), ("union", NODE, NODE),
            ("union", ("row", (2,)), NODE), ("union", ("row", ()), ("row", ())),
            ("repeat", "x", EDGE, STEP, 0), ("repeat", "x", EDGE, STEP, 1),
            ("repeat", "x", EDGE, STEP, 3), ("repeat", "x", NODE, X, 4),
            ("repeat", "x", EDGE, ("paths", X), 2), paths, ("paths", paths),
            ("keep", ("join", paths, paths, ((1, 0),)), (0, 3)), ("union", paths, EDGE),
        ):
            self.check(query, self.facts, {})

    def test_views(self):
        views = {"two": ("keep", ("join", EDGE, EDGE, ((1, 0),)), (0, 3)),
                 "all": ("union", EDGE, ("view", "two")), "far": ("paths", ("view", "all"))}
        for name in views:
            self.check(("view", name), self.facts, views)
        self.check(("join", ("view", "far"), ("view", "far"), ((1, 0),)), self.facts, views)

    def test_nodes_of_facts_and_rows(self):
        circuits = Circuits()
        nodes = circuits_of(NODE, self.facts, {}, circuits)
        self.assertEqual({row: circuits.shown(nodes[row]) for row in nodes}, {
            (2,): ("fact", 5), ("a",): ("fact", 6), (7,): ("fact", 7),
        })
        self.assertEqual(circuits_of(("row", (1,)), self.facts, {}, circuits), {(1,): 1})
        self.assertEqual(circuits_of(("none", 1), self.facts, {}, circuits), {})

    def test_the_same_nodes_when_it_is_asked_again(self):
        circuits = Circuits()
        query = ("union", ("paths", EDGE), ("repeat", "x", EDGE, STEP, 3))
        nodes = circuits_of(query, self.facts, {}, circuits)
        before = shown(circuits)
        self.assertEqual(circuits_of(query, self.facts, {}, circuits), nodes)
        self.assertEqual(shown(circuits), before)

    def test_a_store_that_has_nodes_already(self):
        circuits = Circuits()
        old = circuits.star(circuits.plus([circuits.fact(0), circuits.fact(9)]))
        before = shown(circuits)
        nodes = circuits_of(("paths", EDGE), self.facts, {}, circuits)
        self.assertEqual(shown(circuits)[:len(before)], before)
        self.assertEqual(circuits.shown(old), before[old])
        self.assertEqual(nodes[(2, "a")], circuits_of(("paths", EDGE), self.facts, {},
                                                      circuits)[(2, "a")])

    def test_what_is_passed_is_not_changed_and_what_is_returned_belongs_to_the_caller(self):
        views, circuits = {"v": EDGE}, Circuits()
        for query in (EDGE, ("view", "v"), ("paths", ("view", "v"))):
            nodes = circuits_of(query, self.facts, views, circuits)
            again = dict(nodes)
            nodes.clear()
            self.assertEqual(circuits_of(query, self.facts, views, circuits), again)
        self.assertEqual(views, {"v": EDGE})
        self.assertEqual(self.facts.count(), 8)


class ZeroTest(BuildingCase):
    def test_facts_with_worth_zero_keep_their_rows(self):
        facts = store([(1, 2), (2, 3), (3, 1)], [1])
        for query in (EDGE, ("paths", EDGE), ("keep", ("join", NODE, EDGE, ((0, 0),)), (2,))):
            circuits = Circuits()
            nodes = circuits_of(query, facts, {}, circuits)
            self.assertEqual(set(nodes), plain_rows(query, facts, {})[0])
            for semiring in (Numbers(), Costs(), Whys(), Polynomials(), field(5)):
                worths = {k: semiring.zero() for k in range(4)}
                found = {row: worth(circuits, nodes[row], semiring, worths) for row in nodes}
                self.assertEqual(found, {row: semiring.zero() for row in nodes})
                self.assertEqual(found, meaning(query, facts, {}, semiring, worths))
            self.assertNotIn(0, nodes.values())


class StarTest(BuildingCase):
    def test_a_worth_is_told_where_the_meaning_raises_because_of_another_row(self):
        facts = store([(1, 1), (5, 6)])
        circuits = Circuits()
        nodes = circuits_of(("paths", EDGE), facts, {}, circuits)
        with self.assertRaises(NoStar):
            meaning(("paths", EDGE), facts, {}, Numbers(), {0: 2, 1: 3})
        self.assertEqual(worth(circuits, nodes[(5, 6)], Numbers(), {0: 2, 1: 3}), 3)
        with self.assertRaises(NoStar):
            worth(circuits, nodes[(1, 1)], Numbers(), {0: 2, 1: 3})

    def test_cycles(self):
        chance = random.Random(3)
        for seed in range(150):
            edges = {(chance.randint(0, 4), chance.randint(0, 4)) for _ in range(chance.randint(1, 12))}
            facts = store(sorted(edges))
            self.check(("paths", EDGE), facts, {}, seed)
            self.check(("keep", ("paths", ("keep", EDGE, (1, 0))), (1,)), facts, {}, seed)


class BoundsTest(unittest.TestCase):
    def test_too_large_leaves_the_store_as_it_was(self):
        facts = store((), range(142))
        pairs = ("join", NODE, NODE, ())
        circuits = Circuits()
        circuits.star(circuits.fact(500))
        before = shown(circuits)
        # There are 142 * 143 / 2 products, and 142 facts: 10295 nodes, and then as many again.
        self.assertEqual(len(circuits_of(pairs, facts, {}, circuits)), 142 ** 2)
        self.assertEqual(circuits.count(), len(before) + 10295)
        circuits = Circuits()
        circuits.star(circuits.fact(500))
        for query in (
            ("join", NODE, pairs, ()), ("union", NODE, ("keep", ("join", NODE, pairs, ()), (0,))),
            ("join", ("view", "p"), ("view", "p"), ()), ("keep", pairs, ()),
        ):
            with self.assertRaises(TooLarge):
                circuits_of(query, facts, {"p": pairs}, circuits)
            self.assertEqual(shown(circuits), before)
        # What was forgotten is made anew when it is asked for.
        nodes = circuits_of(("join", NODE, NODE, ((0, 0),)), facts, {}, circuits)
        for row, node in nodes.items():
            self.assertEqual(circuits.shown(node), ("times", (circuits.fact(row[0]),) * 2))
        self.assertEqual(circuits.count(), len(before) + 284)

    def test_a_full_store(self):
        circuits = Circuits()
        for k in range(19990):
            circuits.fact(k)
        before = shown(circuits)
        facts = store([(1, 2), (2, 1), (2, 3), (3, 2)])
        with self.assertRaises(TooLarge):
            circuits_of(("paths", EDGE), facts, {}, circuits)
        self.assertEqual(shown(circuits), before)
        self.assertEqual(len(circuits_of(EDGE, facts, {}, circuits)), 4)
        self.assertEqual(shown(circuits), before)

    def test_no_nodes_that_nothing_needs(self):
        facts = store([(0, 1), (1, 1), (1, 2)])
        circuits = Circuits()
        nodes = circuits_of(("paths", EDGE), facts, {}, circuits)
        within = set(nodes_within(circuits, list(nodes.values())))
        self.assertEqual(set(range(2, circuits.count())) - within, set())

    def test_few_nodes_for_the_work(self):
        # Point 21 rests on this: 40 changes with a work of 250 stay within 20000 nodes.
        for n in range(1, 6):
            facts = store([(a, b) for a in range(n) for b in range(n)])
            for query in (("paths", EDGE), ("paths", ("paths", EDGE)),
                          ("repeat", "x", EDGE, ("paths", X), 2)):
                circuits = Circuits()
                circuits_of(query, facts, {}, circuits)
                work = plain_rows(query, facts, {})[1]
                self.assertLessEqual((circuits.count() - 2 - facts.count()) * 10, work * 16)


class ManyTest(BuildingCase):
    def test_against_the_meaning(self):
        chance = random.Random(8)
        for seed in range(400):
            facts = some_facts(chance, chance.randint(2, 18))
            views, arities = some_views(chance, chance.randint(0, 4), 5)
            query = some_query(chance, chance.randint(0, 4), chance.randint(2, 9), arities)
            if plain_rows(query, facts, views)[1] < 2000:
                self.check(query, facts, views, seed)

    def test_polynomials_without_stars(self):
        chance = random.Random(9)
        done = 0
        while done < 100:
            facts = some_facts(chance, 10)
            query = some_query(chance, chance.randint(0, 3), chance.randint(2, 7), {})
            worths = {k: variable(k) for k in range(facts.count())}
            try:
                rows = meaning(query, facts, {}, Polynomials(), worths)
            except (NoStar, TooLarge):
                continue
            circuits, done = Circuits(), done + 1
            nodes = circuits_of(query, facts, {}, circuits)
            found = {row: worth(circuits, nodes[row], Polynomials(), worths) for row in nodes}
            self.assertEqual(found, rows, query)
