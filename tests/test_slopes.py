import random
import unittest

from everyworth.circuits import Circuits, worth
from everyworth.errors import NoStar
from everyworth.normal import normal
from everyworth.slopes import Slopes, slope

from tests.axioms import STRANGE, check_axioms, check_no_elements, check_no_star, check_star
from tests.test_circuits import shown, tower
from tests.test_normal import small_nodes, starless


def plain_slope(polynomial, fact, numbers):
    """The sum over the monomials of coefficient, exponent, and the powers, one of them lower."""
    total = 0
    for monomial, many in polynomial:
        exponents = dict(monomial)
        if fact in exponents:
            part = many * exponents[fact]
            for other, exponent in monomial:
                part *= numbers[other] ** (exponent - (other == fact))
            total += part
    return total


class SlopesTest(unittest.TestCase):
    def test_small_ones(self):
        slopes = Slopes()
        self.assertEqual((slopes.zero(), slopes.one()), ((0, 0), (1, 0)))
        self.assertEqual(slopes.plus((2, 3), (-5, 7)), (-3, 10))
        self.assertEqual(slopes.times((2, 3), (5, 7)), (10, 29))
        self.assertEqual(slopes.times((-2, 3), (0, 7)), (0, -14))
        self.assertEqual(slopes.star((0, 0)), (1, 0))
        for result in (slopes.zero(), slopes.one(), slopes.plus((1, 2), (3, 4)),
                       slopes.times((1, 2), (3, 4)), slopes.star((0, 0))):
            self.assertIs(type(result), tuple)

    def test_axioms(self):
        chance = random.Random(1)
        check_axioms(self, Slopes(), [(a, b) for a in (-2, 0, 1, 3) for b in (-1, 0, 5)])
        check_axioms(self, Slopes(), [
            (chance.randrange(-10 ** 30, 10 ** 30), chance.randrange(-9, 9)) for _ in range(8)
        ])

    def test_stars(self):
        check_star(self, Slopes(), (0, 0))
        for a in ((1, 0), (0, 1), (0, -1), (-1, 0), (2, 3), (-1, 1), (10 ** 40, 0)):
            check_no_star(self, Slopes(), a)

    def test_is_element(self):
        for a in ((0, 0), (1, 0), (-5, 7), (10 ** 50, -(10 ** 50))):
            self.assertIs(Slopes().is_element(a), True)
        check_no_elements(self, Slopes(), STRANGE)
        check_no_elements(self, Slopes(), [
            0, 1, None, (), (1,), (1, 2, 3), [1, 2], (1, None), (None, 1), (1, True), (False, 0),
            (1, 2.0), ("1", 2), (1, "2"), ((1,), 2), (1, (2,)), "12", {1: 2},
        ])


class SlopeTest(unittest.TestCase):
    def test_small_ones(self):
        store = Circuits()
        a, b = store.fact(0), store.fact(5)
        node = store.plus([store.times([a, a, a, b]), store.times([b, b]), a, 1])
        self.assertEqual(slope(store, node, 0, {0: 2, 5: 3}), 37)
        self.assertEqual(slope(store, node, 5, {0: 2, 5: 3}), 14)
        self.assertEqual(slope(store, node, 7, {0: 2, 5: 3}), 0)
        self.assertEqual(slope(store, node, 0, {0: 0, 5: 3}), 1)
        self.assertEqual(slope(store, node, 5, {0: -1, 5: 0}), -1)
        self.assertEqual((slope(store, 0, 0, {}), slope(store, 1, 0, {})), (0, 0))
        self.assertEqual(slope(store, a, 0, {0: 9}), 1)
        self.assertEqual(slope(store, a, 5, {0: 9}), 0)
        self.assertEqual(slope(store, store.plus([a] * 5), 0, {0: -3}), 5)
        self.assertEqual(slope(store, store.times([a] * 5), 0, {0: -3}), 405)

    def test_against_the_monomials_of_the_normal_form(self):
        chance, others = random.Random(2), 0
        for seed in range(50):
            circuits = starless(random.Random(seed), 16)
            before = shown(circuits)
            for node in small_nodes(circuits):
                polynomial = normal(circuits, node)
                numbers = {k: chance.choice([-7, -2, -1, 0, 0, 1, 2, 10 ** 9]) for k in range(4)}
                told = dict(numbers)
                for fact in range(5):
                    found = slope(circuits, node, fact, numbers)
                    self.assertEqual(found, plain_slope(polynomial, fact, numbers))
                    others += found not in (0, 1)
                self.assertEqual(numbers, told)
            self.assertEqual(shown(circuits), before)
        self.assertGreater(others, 500)

    def test_it_is_the_worth_in_slopes(self):
        store = Circuits()
        a, b = store.fact(0), store.fact(1)
        node = store.times([store.plus([a, b]), store.plus([a, 1]), b])
        pairs = {0: (3, 1), 1: (-2, 0)}
        self.assertEqual(worth(store, node, Slopes(), pairs)[1], slope(store, node, 0, {0: 3, 1: -2}))

    def test_nodes_that_are_shared_many_times_or_have_many_monomials(self):
        store = Circuits()
        a, b = store.fact(0), store.fact(1)
        self.assertEqual(slope(store, tower(store, a, 3000), 0, {0: 5}), 2 ** 3000)
        high = tower(store, store.plus([a, b]), 9, "times")
        self.assertEqual(slope(store, high, 1, {0: 1, 1: 1}), 512 * 2 ** 511)
        wide = store.plus([store.fact(k) for k in range(1500)])
        self.assertEqual(slope(store, store.times([wide, wide]), 3, {k: 1 for k in range(1500)}), 3000)

    def test_a_star_anywhere(self):
        store = Circuits()
        a, b = store.fact(0), store.fact(1)
        star = store.star(a)
        nodes = [star, store.star(1), store.star(star), store.times([b, star]), store.plus([b, star]),
                 tower(store, store.plus([store.times([star, a]), 1]), 2000)]
        for node in nodes:
            for fact in (0, 1, 2):
                for numbers in ({0: 0, 1: 0}, {0: 2, 1: 3}):
                    before = shown(store)
                    with self.assertRaises(NoStar):
                        slope(store, node, fact, numbers)
                    self.assertEqual(shown(store), before)
        self.assertEqual(slope(store, store.plus([a, b]), 0, {0: 2, 1: 3}), 1)


if __name__ == "__main__":
    unittest.main()
