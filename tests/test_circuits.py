import random
import unittest

from everyworth.circuits import Circuits, leaves, nodes_within, put_in, worth
from everyworth.errors import NoStar, TooLarge
from everyworth.mixed import Both
from everyworth.polynomials import Polynomials, variable
from everyworth.semirings import Costs, Events, Levels, Numbers
from everyworth.whys import Whys

from tests.plain import capped, field


def shown(circuits):
    """All nodes of a store."""
    return [circuits.shown(node) for node in range(circuits.count())]


def some_store(chance, many, facts=5):
    """A store with nodes made at random."""
    circuits = Circuits()
    nodes = [0, 1] + [circuits.fact(k) for k in range(facts)]
    for _ in range(many):
        parts = [chance.choice(nodes) for _ in range(chance.randint(0, 4))]
        kind = chance.randrange(5)
        if kind < 2:
            nodes.append(circuits.plus(parts))
        elif kind < 4:
            nodes.append(circuits.times(parts))
        else:
            nodes.append(circuits.star(chance.choice(nodes)))
    return circuits


def plain_worth(circuits, node, semiring, worths):
    """The worth by the words of point 17."""
    word, *rest = circuits.shown(node)
    if word == "fact":
        return worths[rest[0]]
    if word == "star":
        return semiring.star(plain_worth(circuits, rest[0], semiring, worths))
    total = semiring.zero() if word in ("zero", "plus") else semiring.one()
    for part in rest[0] if rest else ():
        one = plain_worth(circuits, part, semiring, worths)
        total = semiring.plus(total, one) if word == "plus" else semiring.times(total, one)
    return total


def plain_leaves(circuits, node):
    word, *rest = circuits.shown(node)
    if word == "fact":
        return 1
    if word == "star":
        return plain_leaves(circuits, rest[0])
    return sum(plain_leaves(circuits, part) for part in (rest[0] if rest else ()))


def tower(circuits, node, high, word="plus"):
    """A chain of sums, or products, of a node with itself."""
    for _ in range(high):
        node = circuits.plus([node, node]) if word == "plus" else circuits.times([node, node])
    return node


class NodesTest(unittest.TestCase):
    def setUp(self):
        self.store = Circuits()
        self.a, self.b, self.c = (self.store.fact(k) for k in (7, 3, 0))

    def test_a_new_store(self):
        store = Circuits()
        self.assertEqual(store.count(), 2)
        self.assertEqual(shown(store), [("zero",), ("one",)])
        self.assertEqual((store.facts_in(0), store.facts_in(1)), ([], []))

    def test_facts(self):
        self.assertEqual((self.a, self.b, self.c), (2, 3, 4))
        self.assertEqual(self.store.shown(self.a), ("fact", 7))
        self.assertEqual([self.store.fact(k) for k in (0, 3, 7)], [4, 3, 2])
        self.assertEqual(self.store.count(), 5)
        self.assertEqual(self.store.shown(self.store.fact(10 ** 20)), ("fact", 10 ** 20))

    def test_plus(self):
        store, a, b, c = self.store, self.a, self.b, self.c
        node = store.plus([b, a])
        self.assertEqual(store.shown(node), ("plus", (a, b)))
        for parts in ([a, b], (b, a), [0, b, 0, a], (a, 0, 0, 0, b)):
            self.assertEqual(store.plus(parts), node)
        self.assertEqual(store.shown(store.plus([c, a, c, b, a])), ("plus", (a, a, b, c, c)))
        self.assertEqual(store.shown(store.plus((a, a))), ("plus", (a, a)))
        self.assertEqual(store.shown(store.plus([1, 1])), ("plus", (1, 1)))
        self.assertEqual(store.shown(store.plus([a, 1])), ("plus", (1, a)))

    def test_plus_of_less_than_two(self):
        store = self.store
        for parts in ([], (), [0], (0, 0), [0] * 5000):
            self.assertEqual(store.plus(parts), 0)
        for parts in ([self.a], (0, self.a), [0] * 3000 + [self.a]):
            self.assertEqual(store.plus(parts), self.a)
        self.assertEqual(store.plus([1]), 1)
        self.assertEqual(store.plus([0, 1, 0]), 1)
        self.assertEqual(store.count(), 5)

    def test_times(self):
        store, a, b, c = self.store, self.a, self.b, self.c
        node = store.times([b, a])
        self.assertEqual(store.shown(node), ("times", (a, b)))
        for parts in ([a, b], (b, a), [1, b, 1, a], (a, 1, 1, 1, b)):
            self.assertEqual(store.times(parts), node)
        self.assertEqual(store.shown(store.times([c, a, c, b, a])), ("times", (a, a, b, c, c)))
        self.assertEqual(store.shown(store.times((a, a))), ("times", (a, a)))

    def test_times_of_less_than_two_or_with_a_zero(self):
        store = self.store
        for parts in ([], (), [1], (1, 1), [1] * 5000):
            self.assertEqual(store.times(parts), 1)
        for parts in ([self.a], (1, self.a), [1] * 3000 + [self.a]):
            self.assertEqual(store.times(parts), self.a)
        for parts in ([0], (0, 0), [self.a, 0], (1, 0), [self.a, self.b, 0, 1], [0] + [self.a] * 3000):
            self.assertEqual(store.times(parts), 0)
        self.assertEqual(store.count(), 5)

    def test_star(self):
        store, a = self.store, self.a
        self.assertEqual(store.star(0), 1)
        self.assertEqual(store.count(), 5)
        node = store.star(a)
        self.assertEqual(store.shown(node), ("star", a))
        self.assertEqual(store.star(a), node)
        self.assertEqual(store.shown(store.star(node)), ("star", node))
        self.assertEqual(store.shown(store.star(1)), ("star", 1))

    def test_no_other_identity(self):
        store, a, b, c = self.store, self.a, self.b, self.c
        ab, bc = store.plus([a, b]), store.plus([b, c])
        self.assertEqual(store.shown(store.plus([ab, c])), ("plus", (c, ab)))
        self.assertNotEqual(store.plus([ab, c]), store.plus([a, bc]))
        self.assertNotEqual(store.plus([ab, c]), store.plus([a, b, c]))
        spread = store.plus([store.times([a, c]), store.times([b, c])])
        self.assertNotEqual(store.times([ab, c]), spread)
        self.assertNotEqual(store.times([store.times([a, b]), c]), store.times([a, b, c]))
        self.assertNotEqual(store.plus([a, a]), a)
        self.assertNotEqual(store.times([a, a]), a)
        self.assertNotEqual(store.star(1), 1)
        self.assertNotEqual(store.star(a), store.plus([1, store.times([a, store.star(a)])]))
        self.assertNotEqual(store.plus([1, a]), store.times([a, 1]))

    def test_no_two_nodes_are_equal(self):
        for seed in range(20):
            circuits = some_store(random.Random(seed), 200)
            nodes = shown(circuits)
            self.assertEqual(len(set(nodes)), len(nodes))
            for node, (word, *rest) in enumerate(nodes):
                self.assertIs(type(circuits.shown(node)), tuple)
                parts = rest[0] if word in ("plus", "times") else ()
                self.assertEqual(list(parts), sorted(parts))
                self.assertTrue(word not in ("plus", "times") or len(parts) > 1)
                self.assertNotIn(0, parts)
                self.assertFalse(word == "times" and 1 in parts)
                self.assertNotEqual((word, *rest), ("star", 0))

    def test_asking_again_makes_no_node(self):
        for seed in range(10):
            circuits = some_store(random.Random(seed), 100)
            before = shown(circuits)
            for node, (word, *rest) in enumerate(before[2:], 2):
                ask = {"fact": circuits.fact, "plus": circuits.plus, "times": circuits.times,
                       "star": circuits.star}[word]
                self.assertEqual(ask(rest[0]), node)
                if word in ("plus", "times"):
                    self.assertEqual(ask(list(reversed(rest[0]))), node)
            self.assertEqual(shown(circuits), before)

    def test_what_is_passed_is_not_kept_and_what_is_told_belongs_to_the_caller(self):
        parts = [self.b, self.a]
        node = self.store.plus(parts)
        self.assertEqual(parts, [self.b, self.a])
        parts.append(self.c)
        self.assertEqual(self.store.shown(node), ("plus", (self.a, self.b)))
        self.store.facts_in(node).append(99)
        self.assertEqual(self.store.facts_in(node), [3, 7])

    def test_facts_in(self):
        store, a, b, c = self.store, self.a, self.b, self.c
        self.assertEqual(store.facts_in(a), [7])
        self.assertEqual(store.facts_in(store.times([a, a, b])), [3, 7])
        deep = store.star(store.plus([1, store.times([c, store.star(a)]), b]))
        self.assertEqual(store.facts_in(deep), [0, 3, 7])
        self.assertEqual(store.facts_in(store.star(1)), [])
        self.assertEqual(store.facts_in(tower(store, deep, 5000)), [0, 3, 7])

    def test_two_stores(self):
        other = Circuits()
        other.star(other.fact(1))
        self.assertEqual(self.store.count(), 5)
        self.assertEqual(other.count(), 4)


class BoundsTest(unittest.TestCase):
    def test_2000_and_2001_nodes_in_one(self):
        store = Circuits()
        facts = [store.fact(k) for k in range(2001)]
        for ask, word, neutral in ((store.plus, "plus", 0), (store.times, "times", 1)):
            node = ask(facts[:2000])
            self.assertEqual(store.shown(node), (word, tuple(facts[:2000])))
            before = shown(store)
            for parts in (facts, tuple(facts), facts[:1] * 2001, facts + [neutral]):
                with self.assertRaises(TooLarge):
                    ask(parts)
            self.assertEqual(shown(store), before)
            # What is left out does not count.
            self.assertEqual(ask(facts[:2000] + [neutral] * 100), node)
            self.assertEqual(store.shown(ask([facts[0]] * 2000)), (word, (facts[0],) * 2000))
        self.assertEqual(store.times(facts + [0]), 0)

    def test_20000_nodes_and_one_more(self):
        store = Circuits()
        for k in range(19998):
            store.fact(k)
        self.assertEqual(store.count(), 20000)
        before = shown(store)
        for ask, thing in ((store.fact, 19998), (store.plus, [2, 3]), (store.times, (2, 3)),
                           (store.star, 2), (store.plus, [5] * 2001)):
            with self.assertRaises(TooLarge):
                ask(thing)
            self.assertEqual(shown(store), before)
        # What is there, or no node of its own, can be asked for still.
        self.assertEqual(store.fact(19997), 19999)
        self.assertEqual((store.plus([0, 9]), store.times([1, 9]), store.star(0)), (9, 9, 1))
        self.assertEqual(store.times([0, 5, 6]), 0)
        self.assertEqual(shown(store), before)

    def test_put_in_that_is_too_large_leaves_the_store_as_it_was(self):
        store = Circuits()
        top = tower(store, store.fact(0), 9990)
        self.assertEqual(put_in(store, top, {}), top)
        put_in(store, top, {0: store.fact(1)})
        self.assertEqual(store.count(), 2 + 2 * 9991)
        last = store.fact(2)
        before = shown(store)
        with self.assertRaises(TooLarge):
            put_in(store, top, {0: last})
        self.assertEqual(shown(store), before)
        # What was forgotten is made anew when it is asked for, one after the other.
        more = store.star(last)
        self.assertEqual((more, store.shown(more)), (len(before), ("star", last)))
        for _ in range(9):
            further = store.plus([last, last])
            self.assertEqual((further, store.shown(further)), (more + 1, ("plus", (last, last))))
            last, more = further, further
        self.assertEqual(store.count(), len(before) + 10)

    def test_put_in_of_too_many_in_one(self):
        store = Circuits()
        wide = store.plus([store.fact(k) for k in range(2000)])
        self.assertEqual(put_in(store, wide, {k: 0 for k in range(1, 2000)}), store.fact(0))
        inner = store.star(store.fact(0))
        both = store.plus([inner, wide])
        before = shown(store)
        self.assertEqual(store.shown(put_in(store, both, {})), ("plus", (min(inner, wide), inner)))
        self.assertEqual(shown(store), before)


class WorthTest(unittest.TestCase):
    def test_small_ones(self):
        store = Circuits()
        a, b = store.fact(0), store.fact(5)
        node = store.plus([a, store.times([a, b, b]), 1])
        self.assertEqual(worth(store, node, Numbers(), {0: 3, 5: 2}), 16)
        self.assertEqual(worth(store, node, Costs(), {0: 3, 5: None}), 0)
        self.assertEqual(worth(store, node, Whys(), {0: ((0,),), 5: ((5,),)}), ((),))
        self.assertEqual(worth(store, 0, Costs(), {}), None)
        self.assertEqual(worth(store, 1, Costs(), {}), 0)
        self.assertEqual(worth(store, 0, Levels(3), {}), 0)
        self.assertEqual(worth(store, 1, Levels(3), {}), 3)
        self.assertEqual(worth(store, a, Numbers(), {0: 9, 1: 5}), 9)
        self.assertEqual(worth(store, store.plus([1, 1, 1]), Numbers(), {}), 3)
        self.assertEqual(worth(store, store.star(a), field(5), {0: 3}), 2)

    def test_against_a_plain_reckoning(self):
        chance = random.Random(11)
        rings = [(field(7), range(7)), (capped(4), range(5)), (Costs(), [None, 0, 2, 5]),
                 (Events(6), range(64)), (Levels(4), range(5)), (Numbers(), range(3))]
        raised = 0
        for seed in range(60):
            circuits = some_store(random.Random(seed), 25)
            for semiring, choice in rings:
                worths = {k: chance.choice(list(choice)) for k in range(5)}
                for node in range(circuits.count()):
                    try:
                        plain = plain_worth(circuits, node, semiring, worths)
                    except NoStar:
                        raised += 1
                        with self.assertRaises(NoStar):
                            worth(circuits, node, semiring, worths)
                    else:
                        self.assertEqual(worth(circuits, node, semiring, worths), plain)
        self.assertGreater(raised, 50)

    def test_no_star(self):
        store = Circuits()
        a, b = store.fact(0), store.fact(1)
        star = store.star(a)
        for node in (star, store.plus([b, star]), store.times([b, star]), store.star(star)):
            with self.assertRaises(NoStar):
                worth(store, node, Numbers(), {0: 2, 1: 0})
            with self.assertRaises(NoStar):
                worth(store, node, Polynomials(), {0: variable(0), 1: variable(1)})
            with self.assertRaises(NoStar):
                worth(store, node, Both(Costs(), Numbers()), {0: (0, 1), 1: (0, 0)})
            with self.assertRaises(NoStar):
                worth(store, node, field(5), {0: 1, 1: 0})
        self.assertEqual(worth(store, star, Numbers(), {0: 0}), 1)
        self.assertEqual(worth(store, store.times([b, star]), Numbers(), {0: 0, 1: 6}), 6)
        # A star elsewhere in the store is not needed.
        self.assertEqual(worth(store, a, Numbers(), {0: 2}), 2)

    def test_too_large_of_the_semiring(self):
        store = Circuits()
        facts = [store.fact(k) for k in range(401)]
        worths = {k: variable(k) for k in range(401)}
        before = shown(store)
        self.assertEqual(len(worth(store, store.times(facts), Polynomials(), worths)), 1)
        with self.assertRaises(TooLarge):
            worth(store, store.plus(facts), Polynomials(), worths)
        with self.assertRaises(TooLarge):
            worth(store, store.plus(facts), Whys(), {k: ((k,),) for k in range(401)})
        self.assertEqual(len(worth(store, store.plus(facts[1:]), Polynomials(), worths)), 400)
        self.assertEqual(shown(store)[:len(before)], before)

    def test_nodes_that_are_shared_many_times(self):
        store = Circuits()
        a = store.fact(0)
        top = tower(store, a, 5000)
        self.assertEqual(worth(store, top, Numbers(), {0: 3}), 3 * 2 ** 5000)
        self.assertEqual(worth(store, top, Costs(), {0: 3}), 3)
        self.assertEqual(worth(store, top, field(7), {0: 3}), 3 * pow(2, 5000, 7) % 7)
        self.assertEqual(worth(store, top, Polynomials(), {0: variable(0)}),
                         ((((0, 1),), 2 ** 5000),))
        high = tower(store, a, 4000, "times")
        self.assertEqual(worth(store, high, Costs(), {0: 1}), 2 ** 4000)
        self.assertEqual(worth(store, high, field(7), {0: 3}), pow(3, pow(2, 4000, 6), 7))
        stars = a
        for _ in range(3000):
            stars = store.star(store.plus([stars, stars]))
        self.assertEqual(worth(store, stars, Costs(), {0: 5}), 0)
        self.assertEqual(worth(store, stars, Events(3), {0: 5}), 7)

    def test_a_store_with_as_many_nodes_as_it_may_have(self):
        store = Circuits()
        top = tower(store, store.fact(0), 19997)
        self.assertEqual(store.count(), 20000)
        self.assertEqual(worth(store, top, capped(4), {0: 1}), 4)
        self.assertEqual(leaves(store, top), 2 ** 19997)
        self.assertEqual(store.facts_in(top), [0])
        self.assertEqual(put_in(store, top, {0: 0}), 0)
        with self.assertRaises(TooLarge):
            put_in(store, top, {0: 1})
        self.assertEqual(store.count(), 20000)

    def test_what_is_passed_is_not_changed(self):
        store = Circuits()
        node = store.plus([store.fact(0), store.fact(1)])
        worths, nodes, before = {0: 1, 1: 2}, {0: 1}, shown(store)
        worth(store, node, Numbers(), worths)
        leaves(store, node)
        self.assertEqual(shown(store), before)
        put_in(store, node, nodes)
        self.assertEqual((worths, nodes), ({0: 1, 1: 2}, {0: 1}))
        self.assertEqual(shown(store)[:len(before)], before)


class PutInTest(unittest.TestCase):
    def test_small_ones(self):
        store = Circuits()
        a, b, c = (store.fact(k) for k in range(3))
        node = store.plus([a, store.times([a, b])])
        self.assertEqual(put_in(store, node, {}), node)
        self.assertEqual(put_in(store, node, {9: 0}), node)
        self.assertEqual(put_in(store, node, {1: c}), store.plus([a, store.times([a, c])]))
        self.assertEqual(put_in(store, node, {0: b, 1: a}), store.plus([b, store.times([b, a])]))
        self.assertEqual(put_in(store, node, {0: node}),
                         store.plus([node, store.times([node, b])]))
        self.assertEqual(put_in(store, node, {0: 0}), 0)
        self.assertEqual(put_in(store, node, {1: 0}), a)
        self.assertEqual(put_in(store, node, {0: 1}), store.plus([1, b]))
        self.assertEqual(put_in(store, node, {1: 1}), store.plus([a, a]))
        self.assertEqual(put_in(store, store.star(a), {0: 0}), 1)
        self.assertEqual(put_in(store, store.star(a), {0: c}), store.star(c))
        self.assertEqual((put_in(store, 0, {0: 1}), put_in(store, 1, {0: 0})), (0, 1))
        self.assertEqual(put_in(store, a, {0: node}), node)

    def test_worths_of_what_is_put_in(self):
        chance = random.Random(12)
        for seed in range(40):
            circuits = some_store(random.Random(seed), 25)
            many = circuits.count()
            for _ in range(20):
                node = chance.randrange(many)
                nodes = {k: chance.randrange(many) for k in chance.sample(range(6), 3)}
                result = put_in(circuits, node, nodes)
                for semiring, size in ((capped(3), 4), (Events(5), 32), (Levels(3), 4)):
                    worths = {k: chance.randrange(size) for k in range(5)}
                    inner = dict(worths)
                    for k, other in nodes.items():
                        inner[k] = worth(circuits, other, semiring, worths)
                    self.assertEqual(worth(circuits, result, semiring, worths),
                                     worth(circuits, node, semiring, inner))

    def test_nodes_that_are_shared_many_times(self):
        store = Circuits()
        top = tower(store, store.fact(0), 5000)
        other = put_in(store, top, {0: store.fact(1)})
        self.assertEqual(other, tower(store, store.fact(1), 5000))
        self.assertEqual(worth(store, other, Numbers(), {1: 5}), 5 * 2 ** 5000)


class LeavesTest(unittest.TestCase):
    def test_small_ones(self):
        store = Circuits()
        a, b = store.fact(0), store.fact(1)
        self.assertEqual((leaves(store, 0), leaves(store, 1), leaves(store, a)), (0, 0, 1))
        self.assertEqual(leaves(store, store.plus([a, a, b, 1])), 3)
        twice = store.times([a, store.plus([a, b])])
        self.assertEqual(leaves(store, store.star(store.plus([twice, twice, 1]))), 6)
        self.assertEqual(leaves(store, store.star(1)), 0)

    def test_against_a_plain_reckoning(self):
        for seed in range(40):
            circuits = some_store(random.Random(seed), 20)
            for node in range(circuits.count()):
                self.assertEqual(leaves(circuits, node), plain_leaves(circuits, node))

    def test_nodes_that_are_shared_many_times(self):
        store = Circuits()
        self.assertEqual(leaves(store, tower(store, store.fact(0), 5000)), 2 ** 5000)
        self.assertEqual(leaves(store, tower(store, store.fact(0), 5000, "times")), 2 ** 5000)


class WithinTest(unittest.TestCase):
    def test_nodes_within(self):
        store = Circuits()
        a, b = store.fact(0), store.fact(1)
        star = store.star(store.plus([a, b]))
        product = store.times([star, star, a])
        store.plus([product, 1])
        self.assertEqual(nodes_within(store, [product]), [a, b, star - 1, star, product])
        self.assertEqual(nodes_within(store, [b, 0, a]), [0, a, b])
        self.assertEqual(nodes_within(store, []), [])
