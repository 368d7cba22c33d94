import random
import unittest

from everyworth.circuits import Circuits, leaves, worth
from everyworth.errors import NoStar, TooLarge
from everyworth.normal import factored, normal, same_worth, witness
from everyworth.polynomials import variable
from everyworth.semirings import Numbers

from tests.test_circuits import shown, tower
from tests.test_polynomials import told


def starless(chance, many, facts=4):
    """A store with nodes without stars, made at random."""
    circuits = Circuits()
    nodes = [0, 1] + [circuits.fact(k) for k in range(facts)]
    for _ in range(many):
        parts = [chance.choice(nodes) for _ in range(chance.randint(2, 3))]
        ask = circuits.plus if chance.randrange(2) else circuits.times
        nodes.append(ask(parts))
    return circuits


def words(circuits, node):
    """All products of a node that is written out as a sum, each a list of facts."""
    word, *rest = circuits.shown(node)
    if word == "fact":
        return [[rest[0]]]
    parts = [words(circuits, part) for part in (rest[0] if rest else ())]
    if word in ("zero", "plus"):
        return [one for part in parts for one in part]
    product = [[]]
    for part in parts:
        product = [one + other for one in product for other in part]
    return product


def plain_normal(circuits, node):
    return told([tuple(sorted(word)) for word in words(circuits, node)])


def small_nodes(circuits, most=300):
    """The nodes that are a sum of so many products at most, of so many facts each."""
    sums, high = [], []
    for node in range(circuits.count()):
        word, *rest = circuits.shown(node)
        parts = rest[0] if word in ("plus", "times") else ()
        if word == "plus":
            many, degree = sum(sums[part] for part in parts), max(high[part] for part in parts)
        elif word == "times":
            many, degree = 1, sum(high[part] for part in parts)
            for part in parts:
                many *= sums[part]
        else:
            many, degree = int(word != "zero"), int(word == "fact")
        sums.append(many)
        high.append(degree)
    return [k for k in range(circuits.count()) if sums[k] <= most and high[k] <= 20]


def written_out(polynomial):
    """The leaves of a normal form that is written out."""
    return sum(many * sum(exponent for fact, exponent in monomial) for monomial, many in polynomial)


def of_polynomial(circuits, polynomial):
    """A node with this normal form."""
    return circuits.plus([
        circuits.times([circuits.fact(k) for k, exponent in monomial for _ in range(exponent)]
                       + [circuits.plus([1] * many)])
        for monomial, many in polynomial
    ])


class NormalCase(unittest.TestCase):
    def setUp(self):
        self.store = Circuits()
        self.a, self.b, self.c, self.d = (self.store.fact(k) for k in range(4))

    def wide(self, many, first=0):
        """A node with so many monomials."""
        return self.store.plus([self.store.fact(k) for k in range(first, first + many)])

    def refused(self, error, ask, *args):
        before = shown(self.store)
        with self.assertRaises(error) as caught:
            ask(self.store, *args)
        self.assertIs(type(caught.exception), error)
        self.assertEqual(shown(self.store), before)

    def starred(self):
        """Nodes with a star somewhere in them."""
        store, a, b = self.store, self.a, self.b
        star = store.star(a)
        inner = store.plus([store.times([b, store.plus([store.star(1), b])]), a])
        return [star, store.star(star), store.star(1), store.times([b, star]),
                store.plus([1, store.times([b, star]), a]), inner, tower(store, inner, 3000)]


class NormalTest(NormalCase):
    def test_each_kind_of_node(self):
        store, a, b = self.store, self.a, self.b
        self.assertEqual(normal(store, 0), ())
        self.assertEqual(normal(store, 1), (((), 1),))
        self.assertEqual(normal(store, b), variable(1))
        self.assertEqual(normal(store, store.fact(10 ** 12)), variable(10 ** 12))
        self.assertEqual(normal(store, store.plus([a, b, 1, a])),
                         (((), 1), (((0, 1),), 2), (((1, 1),), 1)))
        self.assertEqual(normal(store, store.times([a, b, a])), ((((0, 2), (1, 1)), 1),))
        both = store.times([store.plus([a, b]), store.plus([a, b])])
        self.assertEqual(normal(store, both),
                         ((((0, 1), (1, 1)), 2), (((0, 2),), 1), (((1, 2),), 1)))

    def test_against_plain_sums_of_products(self):
        many = 0
        for seed in range(80):
            circuits = starless(random.Random(seed), 16)
            before = shown(circuits)
            for node in small_nodes(circuits):
                self.assertEqual(normal(circuits, node), plain_normal(circuits, node))
                many += circuits.shown(node)[0] in ("plus", "times")
            self.assertEqual(shown(circuits), before)
        self.assertGreater(many, 500)

    def test_nodes_that_are_shared_many_times(self):
        store, a, b = self.store, self.a, self.b
        self.assertEqual(normal(store, tower(store, a, 5000)), ((((0, 1),), 2 ** 5000),))
        self.assertEqual(normal(store, tower(store, a, 5000, "times")), ((((0, 2 ** 5000),), 1),))
        both = store.plus([tower(store, a, 900), tower(store, b, 800), 1])
        self.assertEqual(normal(store, both),
                         (((), 1), (((0, 1),), 2 ** 900), (((1, 1),), 2 ** 800)))

    def test_no_star(self):
        for node in self.starred():
            self.refused(NoStar, normal, node)
        # A star elsewhere in the store does not matter.
        self.assertEqual(normal(self.store, self.a), variable(0))

    def test_400_and_401_monomials(self):
        store = self.store
        self.assertEqual(len(normal(store, self.wide(400))), 400)
        wide = self.wide(401)
        for node in (wide, store.times([self.wide(20), self.wide(21, 100)]),
                     store.times([wide, self.a]), store.plus([wide, wide])):
            self.refused(TooLarge, normal, node)
        self.assertEqual(len(normal(store, store.times([self.wide(20), self.wide(20, 100)]))), 400)
        # Equal monomials count once, however many ways there are.
        line = store.plus([1, self.a])
        self.assertEqual(len(normal(store, store.times([line] * 399))), 400)
        self.refused(TooLarge, normal, store.times([line] * 400))
        self.refused(TooLarge, normal, tower(store, line, 12, "times"))

    def test_a_star_comes_ahead_of_what_is_too_large(self):
        store = self.store
        self.refused(NoStar, normal, store.plus([self.wide(401), store.star(self.a)]))
        self.refused(NoStar, normal, store.plus([store.star(self.a), self.wide(401)]))


class SameWorthTest(NormalCase):
    def equal_pairs(self):
        store, a, b, c = self.store, self.a, self.b, self.c
        ab, bc = store.plus([a, b]), store.plus([b, c])
        return [
            (a, a), (0, 0), (1, 1),
            (store.times([ab, c]), store.plus([store.times([a, c]), store.times([b, c])])),
            (store.plus([ab, c]), store.plus([a, bc])),
            (store.plus([ab, c]), store.plus([c, a, b])),
            (store.times([store.times([a, b]), c]), store.times([store.times([c, b]), a])),
            (store.plus([a, a]), store.times([store.plus([1, 1]), a])),
            (store.plus([ab, ab, c]), store.plus([a, a, b, b, c])),
            (store.times([ab, ab]),
             store.plus([store.times([a, a]), store.times([b, b]), store.times([a, b]),
                         store.times([b, a])])),
        ]

    def test_equal_ones(self):
        for one, other in self.equal_pairs():
            self.assertIs(same_worth(self.store, one, other), True)
            self.assertIs(same_worth(self.store, other, one), True)
            self.assertIsNone(witness(self.store, one, other))
            self.assertIsNone(witness(self.store, other, one))

    def unequal_pairs(self):
        store, a, b, c = self.store, self.a, self.b, self.c
        return [
            (0, 1), (0, a), (a, b), (1, a), (a, store.plus([a, a])), (a, store.times([a, a])),
            (store.plus([a, 1]), a), (store.plus([a, b]), store.times([a, b])),
            (store.plus([a, b]), store.plus([a, b, b])),
            (store.times([a, b, b]), store.times([a, a, b])),
            (store.times([a, b, b, b]), store.times([a, b, b])),
            (store.times([a, b, c]), store.plus([store.times([a, b, c])] * 2)),
            (0, store.times([a, b, c])), (tower(store, a, 40), tower(store, a, 41)),
            (tower(store, a, 9, "times"), tower(store, a, 10, "times")),
            (store.plus([tower(store, a, 60, "times"), b]), tower(store, a, 60, "times")),
        ]

    def check_witness(self, store, one, other):
        numbers = witness(store, one, other)
        facts = sorted({*store.facts_in(one), *store.facts_in(other)})
        self.assertEqual(sorted(numbers), facts)
        for number in numbers.values():
            self.assertIs(type(number), int)
            self.assertGreaterEqual(number, 0)
        self.assertNotEqual(worth(store, one, Numbers(), numbers),
                            worth(store, other, Numbers(), numbers))

    def test_different_ones_and_their_witnesses(self):
        for one, other in self.unequal_pairs():
            for pair in ((one, other), (other, one)):
                before = shown(self.store)
                self.assertIs(same_worth(self.store, *pair), False)
                self.check_witness(self.store, *pair)
                self.assertEqual(shown(self.store), before)

    def test_nodes_made_at_random(self):
        chance, equal, different = random.Random(5), 0, 0
        for seed in range(60):
            circuits = starless(random.Random(seed), 16)
            nodes = small_nodes(circuits, 60)
            for _ in range(60):
                one, other = chance.choice(nodes), chance.choice(nodes)
                if chance.randrange(8) == 0:
                    other = of_polynomial(circuits, plain_normal(circuits, one))
                same = plain_normal(circuits, one) == plain_normal(circuits, other)
                self.assertIs(same_worth(circuits, one, other), same)
                if same:
                    self.assertIsNone(witness(circuits, one, other))
                    equal += one != other
                else:
                    self.check_witness(circuits, one, other)
                    different += 1
        self.assertGreater(equal, 20)
        self.assertGreater(different, 1000)

    def test_a_witness_behind_many_roots(self):
        # x (x - 1) (x - 2) .. (x - 6) y, with what is taken away on the other side.
        sides = {0: {1: 1}, 1: {}}
        for root in range(1, 7):
            moved = {0: {}, 1: {}}
            for side in (0, 1):
                for exponent, many in sides[side].items():
                    moved[side][exponent + 1] = moved[side].get(exponent + 1, 0) + many
                    other = moved[1 - side]
                    other[exponent] = other.get(exponent, 0) + root * many
            sides = moved
        one, other = (
            of_polynomial(self.store, [(((0, exponent), (1, 1)), many)
                                       for exponent, many in sides[side].items()])
            for side in (0, 1)
        )
        for number in range(7):
            self.assertEqual(worth(self.store, one, Numbers(), {0: number, 1: 1}),
                             worth(self.store, other, Numbers(), {0: number, 1: 1}))
        self.check_witness(self.store, one, other)

    def test_errors_of_the_first_node_come_first(self):
        store = self.store
        star, wide = store.star(self.a), self.wide(401)
        for ask in (same_worth, witness):
            for pair in ((star, self.a), (self.a, star), (star, star), (star, wide)):
                self.refused(NoStar, ask, *pair)
            for pair in ((wide, self.a), (self.a, wide), (wide, wide), (wide, star)):
                self.refused(TooLarge, ask, *pair)


class FactoredTest(NormalCase):
    def check_factored(self, store, node):
        polynomial = normal(store, node)
        before = shown(store)
        result = factored(store, node)
        self.assertEqual(normal(store, result), polynomial)
        self.assertLessEqual(leaves(store, result), written_out(polynomial))
        self.assertLessEqual(leaves(store, result), leaves(store, node))
        self.assertEqual(shown(store)[:len(before)], before)
        return result

    def test_nodes_that_are_small(self):
        store, a, b, c = self.store, self.a, self.b, self.c
        self.assertEqual((factored(store, 0), factored(store, 1), factored(store, a)), (0, 1, a))
        for node in (
            store.plus([1, 1]), store.plus([1] * 37), store.plus([a, a]), store.times([a, a]),
            store.plus([a] * 100), store.times([a] * 100), store.times([store.plus([a, b])] * 5),
            store.plus([store.times([a, a, a])] * 3 + [store.times([a, a])] * 2 + [1, 1]),
            store.times([store.plus([a, b]), store.plus([c, 1])]), tower(store, a, 3000),
            tower(store, a, 3000, "times"), tower(store, store.plus([a, 1, 1]), 6, "times"),
        ):
            self.check_factored(store, node)

    def test_common_facts_are_taken_out(self):
        store, a, b, c, d = self.store, self.a, self.b, self.c, self.d

        def sum_of(*products):
            return store.plus([store.times(product) for product in products])

        for node, many in (
            (sum_of([a, b], [a, c]), 3),
            (sum_of([a, b], [a, c], [a, d], [a]), 4),
            (sum_of([a, b, c], [a, b, d], [c]), 6),
            (sum_of([a, a, a], [a, a], [a, a]), 3),
            (sum_of([a, b], [c, d]), 4),
            (sum_of(*[[store.fact(9), store.fact(k)] for k in range(10, 60)]), 51),
            (sum_of([a] * 5), 5), (store.plus([a] * 7), 1),
        ):
            self.assertLessEqual(leaves(store, self.check_factored(store, node)), many)

    def test_nodes_made_at_random(self):
        won = 0
        for seed in range(60):
            circuits = starless(random.Random(seed), 14)
            for node in small_nodes(circuits, 100):
                result = self.check_factored(circuits, node)
                won += leaves(circuits, result) < leaves(circuits, node)
        self.assertGreater(won, 100)

    def test_sums_of_products_made_at_random(self):
        chance = random.Random(9)
        for _ in range(150):
            store = Circuits()
            facts = [store.fact(k) for k in range(5)]
            products = [
                store.times([chance.choice(facts) for _ in range(chance.randrange(7))])
                for _ in range(chance.randrange(1, 25))
            ]
            self.check_factored(store, store.plus(products))

    def test_large_ones(self):
        store = self.store
        line = store.plus([1, self.a])
        self.check_factored(store, store.times([line] * 399))
        wide = [store.fact(k) for k in range(2000)]
        self.check_factored(store, store.times(wide))
        self.check_factored(store, store.times([store.times(wide), store.times(wide[1:] + [1])]))
        self.check_factored(store, store.plus(wide[:400]))
        chance = random.Random(2)
        products = [store.times(chance.sample(wide[:200], 100)) for _ in range(400)]
        self.check_factored(store, store.plus(products))
        self.assertLess(store.count(), 10000)

    def test_more_facts_in_a_monomial_than_nodes_in_one(self):
        store = Circuits()
        thousands = [store.times([store.fact(k) for k in range(start, start + 1500)])
                     for start in (0, 1500)]
        product = store.times(thousands)
        twice = store.plus([store.times([product, 1]), store.times([product, store.fact(0)])])
        self.check_factored(store, product)
        self.check_factored(store, twice)

    def test_coefficients_of_thousands_of_bits(self):
        store, a, b = self.store, self.a, self.b
        line = store.plus([a, a, b, 1, 1, 1])
        self.check_factored(store, store.times([line] * 15))
        for node in (a, store.plus([a, b]), store.times([a, a, b])):
            for high in (5, 10, 14):
                huge = tower(store, store.plus([1, 1, 1]), high, "times")
                self.check_factored(store, store.times([huge, node]))
                self.check_factored(store, store.plus([huge, node]))

    def test_no_star_and_too_large(self):
        for node in self.starred():
            self.refused(NoStar, factored, node)
        self.refused(TooLarge, factored, self.wide(401))
        self.refused(NoStar, factored, self.store.plus([self.wide(401), self.store.star(self.a)]))

    def test_a_store_without_room_stays_as_it_was(self):
        for room in range(8):
            store = Circuits()
            facts = [store.fact(k) for k in range(7)]
            node = store.plus([store.times([facts[0], one]) for one in facts[1:]])
            high = 20000 - room - store.count()
            top = tower(store, facts[0], high)
            self.assertEqual(store.count(), 20000 - room)
            before = shown(store)
            try:
                result = self.check_factored(store, node)
            except TooLarge:
                self.assertEqual(shown(store), before)
            else:
                self.assertEqual(leaves(store, result), 7)
            # Each node is found again under its number.
            self.assertEqual(tower(store, facts[0], high), top)


if __name__ == "__main__":
    unittest.main()
