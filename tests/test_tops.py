import itertools
import random
import unittest

from everyworth.circuits import Circuits, worth
from everyworth.engine import Engine
from everyworth.errors import InvalidArgument
from everyworth.tops import Tops, best_costs

from tests.axioms import STRANGE, check_axioms, check_no_elements, check_star
from tests.test_circuits import some_store
from tests.test_normal import small_nodes, starless, words


def some_tops(chance, k, low=0):
    return tuple(sorted(chance.randrange(low, 9) for _ in range(chance.randrange(k + 1))))


def plain_star(a, k):
    """The k least sums of any number of costs of a, each cost counted as often as it stands."""
    total, least = [0], [0]
    for _ in range(k + 1):
        total = sorted(x + y for x in total for y in a)[:k]
        least = sorted(least + total)[:k]
    return tuple(least)


class TopsTest(unittest.TestCase):
    def test_the_range_of_k(self):
        for k in (0, 21, -1, -20, 10 ** 9):
            with self.assertRaises(InvalidArgument):
                Tops(k)
        for k in (1, 2, 20):
            self.assertEqual((Tops(k).zero(), Tops(k).one()), ((), (0,)))

    def test_small_ones(self):
        tops = Tops(3)
        self.assertEqual(tops.plus((1, 5), (1, 2)), (1, 1, 2))
        self.assertEqual(tops.plus((), (4, 4)), (4, 4))
        self.assertEqual(tops.times((1, 5), (1, 2)), (2, 3, 6))
        self.assertEqual(tops.times((1, 1), (0, 1)), (1, 1, 2))
        self.assertEqual(tops.times((), (1,)), ())
        self.assertEqual(tops.star(()), (0,))
        self.assertEqual(tops.star((0,)), (0, 0, 0))
        self.assertEqual(tops.star((0, 7)), (0, 0, 0))
        self.assertEqual(tops.star((2,)), (0, 2, 4))
        self.assertEqual(tops.star((2, 3)), (0, 2, 3))
        self.assertEqual(tops.star((5, 5)), (0, 5, 5))
        self.assertEqual(Tops(6).star((2, 3)), (0, 2, 3, 4, 5, 5))
        self.assertEqual(Tops(1).star((4,)), (0,))
        self.assertEqual(Tops(20).star((0,)), (0,) * 20)
        self.assertEqual(Tops(20).star((1,)), tuple(range(20)))

    def test_against_plain_lists_of_all_sums(self):
        chance = random.Random(1)
        for k in (1, 2, 3, 7, 20):
            tops = Tops(k)
            for _ in range(100):
                a, b = some_tops(chance, k), some_tops(chance, k)
                self.assertEqual(tops.plus(a, b), tuple(sorted(a + b)[:k]))
                sums = sorted(x + y for x, y in itertools.product(a, b))
                self.assertEqual(tops.times(a, b), tuple(sums[:k]))
                c = some_tops(chance, k, 1)
                self.assertEqual(tops.star(c), plain_star(c, k))
                self.assertEqual(tops.star((0,) + c[1:]), (0,) * k)

    def test_axioms(self):
        chance = random.Random(2)
        for k in (1, 2, 3, 20):
            check_axioms(self, Tops(k), [some_tops(chance, k) for _ in range(9)])

    def test_stars(self):
        chance = random.Random(3)
        for k in (1, 2, 3, 4, 9, 20):
            for a in [(), (0,), (1,), (10 ** 30,)] + [some_tops(chance, k) for _ in range(60)]:
                check_star(self, Tops(k), a)
        for a in itertools.combinations_with_replacement(range(4), 3):
            check_star(self, Tops(3), a)

    def test_is_element(self):
        tops = Tops(3)
        for a in ((), (0,), (0, 0, 0), (1, 1, 2), (10 ** 40,), (0, 10 ** 40)):
            self.assertIs(tops.is_element(a), True)
        check_no_elements(self, tops, STRANGE)
        check_no_elements(self, tops, [
            (1, 0), (0, 2, 1), (0, 0, 0, 0), (1, 2, 3, 4), (-1,), (-1, 0), (0, -1), (0, True),
            (False, 0), (0, 1.0), (0, "1"), ("1", 0), (0, None), (None, None), ((0,), (1,)),
            [0, 1], [], 0, 3, -1, None, "012", range(3), {0: 1}, (0, ()), ([],),
        ])
        self.assertIs(Tops(1).is_element((0, 0)), False)
        self.assertIs(Tops(20).is_element((5,) * 20), True)
        self.assertIs(Tops(20).is_element((5,) * 21), False)


class BestCostsTest(unittest.TestCase):
    def test_small_ones(self):
        store = Circuits()
        a, b, c = (store.fact(k) for k in range(3))
        node = store.plus([a, store.times([b, c]), store.times([b, b])])
        costs = {0: 4, 1: 1, 2: 2, 9: 0}
        self.assertEqual(best_costs(store, node, 1, costs), (2,))
        self.assertEqual(best_costs(store, node, 2, costs), (2, 3))
        self.assertEqual(best_costs(store, node, 20, costs), (2, 3, 4))
        self.assertEqual(best_costs(store, 0, 5, {}), ())
        self.assertEqual(best_costs(store, 1, 5, {}), (0,))
        self.assertEqual(best_costs(store, a, 5, costs), (4,))
        self.assertEqual(best_costs(store, store.plus([a, a, a]), 2, costs), (4, 4))
        self.assertEqual(best_costs(store, store.star(b), 4, costs), (0, 1, 2, 3))
        self.assertEqual(best_costs(store, store.star(a), 3, {0: 0}), (0, 0, 0))

    def test_against_all_ways_written_out(self):
        chance, many = random.Random(4), 0
        for seed in range(60):
            circuits = starless(random.Random(seed), 14)
            for node in small_nodes(circuits):
                costs = {k: chance.randrange(6) for k in range(4)}
                ways = sorted(sum(costs[k] for k in word) for word in words(circuits, node))
                for k in (1, 3, 20):
                    self.assertEqual(best_costs(circuits, node, k, costs), tuple(ways[:k]))
                many += len(ways) > 3
        self.assertGreater(many, 50)

    def test_stars_of_any_node_are_told(self):
        chance = random.Random(5)
        for seed in range(20):
            circuits = some_store(random.Random(seed), 30)
            costs = {k: chance.randrange(6) for k in range(5)}
            for node in range(circuits.count()):
                found = best_costs(circuits, node, 5, costs)
                self.assertIs(Tops(5).is_element(found), True)
                alone = {k: (cost,) for k, cost in costs.items()}
                self.assertEqual(found, worth(circuits, node, Tops(5), alone))

    def test_the_best_walks_of_a_graph(self):
        engine = Engine([("edge", 2)])
        for row in ((1, 2), (2, 1), (2, 3), (1, 3)):
            engine.add("edge", row)
        engine.define("far", ("paths", ("table", "edge")))
        costs = {0: 1, 1: 2, 2: 1, 3: 7}
        found = best_costs(engine.circuits(), engine.node("far", (1, 3)), 6, costs)
        # 1 2 3; the same once more around; 1 3; twice around; 1 2 1 3; three times around.
        self.assertEqual(found, (2, 5, 7, 8, 10, 11))

    def test_the_range_of_k(self):
        store = Circuits()
        node = store.star(store.fact(0))
        for k in (0, -1, 21, 100):
            with self.assertRaises(InvalidArgument):
                best_costs(store, node, k, {0: 1})
            # Ahead of anything that is wrong with the costs.
            with self.assertRaises(InvalidArgument):
                best_costs(store, node, k, {})

    def test_what_is_passed_is_not_changed(self):
        store, costs = Circuits(), {0: 3}
        node = store.fact(0)
        best_costs(store, node, 2, costs)
        self.assertEqual((costs, store.count()), ({0: 3}, 3))


if __name__ == "__main__":
    unittest.main()
