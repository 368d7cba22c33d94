import itertools
import random
import unittest
from collections import Counter

from everyworth.errors import TooLarge
from everyworth.polynomials import Polynomials, degree, value_at, variable

from tests.axioms import (
    STRANGE, check_axioms, check_no_elements, check_no_star, check_star, spoiled,
)


def told(words):
    """The polynomial of a list of words, each the sorted tuple of the facts of one monomial."""
    many = Counter(tuple(sorted(Counter(word).items())) for word in words)
    return tuple(sorted(many.items()))


def plain(polynomial):
    """The words of a polynomial, each as often as its coefficient says."""
    words = []
    for monomial, coefficient in polynomial:
        word = tuple(fact for fact, exponent in monomial for _ in range(exponent))
        words += [word] * coefficient
    return words


def plain_plus(a, b):
    return told(plain(a) + plain(b))


def plain_times(a, b):
    return told([s + t for s in plain(a) for t in plain(b)])


def some_polynomial(chance, facts, most):
    words = [
        tuple(chance.choice(facts) for _ in range(chance.randrange(4)))
        for _ in range(chance.randint(0, most))
    ]
    return told(words)


def powers(first, last):
    """The sum of x ** k for k in the range, x being the fact 0."""
    return tuple((((0, k),) if k else (), 1) for k in range(first, last))


X, Y = variable(0), variable(1)


class OperationsTest(unittest.TestCase):
    def test_zero_and_one(self):
        self.assertEqual(Polynomials().zero(), ())
        self.assertEqual(Polynomials().one(), (((), 1),))

    def test_variable(self):
        self.assertEqual(variable(0), ((((0, 1),), 1),))
        self.assertEqual(variable(7), ((((7, 1),), 1),))
        for fact in (0, 1, 199, 10 ** 30):
            self.assertIs(Polynomials().is_element(variable(fact)), True)

    def test_plus(self):
        plus = Polynomials().plus
        self.assertEqual(plus(X, Y), ((((0, 1),), 1), (((1, 1),), 1)))
        self.assertEqual(plus(Y, X), ((((0, 1),), 1), (((1, 1),), 1)))
        self.assertEqual(plus(X, X), ((((0, 1),), 2),))
        self.assertEqual(plus(X, (((), 3),)), (((), 3), (((0, 1),), 1)))

    def test_times(self):
        times, plus = Polynomials().times, Polynomials().plus
        self.assertEqual(times(X, Y), ((((0, 1), (1, 1)), 1),))
        self.assertEqual(times(Y, X), ((((0, 1), (1, 1)), 1),))
        self.assertEqual(times(X, X), ((((0, 2),), 1),))
        square = times(plus(X, Y), plus(X, Y))
        self.assertEqual(square, ((((0, 1), (1, 1)), 2), (((0, 2),), 1), (((1, 2),), 1)))
        self.assertEqual(times((((), 2),), ((((0, 1),), 3),)), ((((0, 1),), 6),))

    def test_order_of_monomials(self):
        words = [(), (0,), (0, 0), (0, 1), (0, 0, 1), (1,), (1, 1), (10,), (2,)]
        expected = [
            (), ((0, 1),), ((0, 1), (1, 1)), ((0, 2),), ((0, 2), (1, 1)), ((1, 1),), ((1, 2),),
            ((2, 1),), ((10, 1),),
        ]
        total = ()
        for word in words:
            total = Polynomials().plus(total, told([word]))
        self.assertEqual([monomial for monomial, _ in total], expected)

    def test_against_a_plain_reckoning(self):
        chance = random.Random(4)
        for _ in range(200):
            facts = chance.sample(range(12), 3)
            a, b = some_polynomial(chance, facts, 7), some_polynomial(chance, facts, 7)
            self.assertEqual(Polynomials().plus(a, b), plain_plus(a, b), (a, b))
            self.assertEqual(Polynomials().times(a, b), plain_times(a, b), (a, b))

    def test_axioms_over_many_triples(self):
        chance = random.Random(5)
        elements = [some_polynomial(chance, [0, 1, 5], 5) for _ in range(12)]
        check_axioms(self, Polynomials(), elements + [X, Y, (((), 10 ** 30),)])

    def test_stars(self):
        self.assertEqual(Polynomials().star(()), (((), 1),))
        check_star(self, Polynomials(), ())
        for a in ((((), 1),), (((), 2),), X, Polynomials().plus(X, Y), powers(0, 5)):
            check_no_star(self, Polynomials(), a)


class BoundsTest(unittest.TestCase):
    def test_plus_up_to_400_monomials(self):
        plus = Polynomials().plus
        self.assertEqual(plus(powers(0, 200), powers(200, 400)), powers(0, 400))
        self.assertEqual(len(plus(powers(0, 400), powers(0, 400))), 400)
        with self.assertRaises(TooLarge):
            plus(powers(0, 200), powers(200, 401))
        with self.assertRaises(TooLarge):
            plus(powers(1, 401), (((), 1),))

    def test_times_up_to_400_monomials(self):
        times = Polynomials().times
        product = times(powers(0, 201), powers(0, 200))
        self.assertEqual([monomial for monomial, _ in product], [m for m, _ in powers(0, 400)])
        self.assertEqual(product, plain_times(powers(0, 201), powers(0, 200)))
        with self.assertRaises(TooLarge):
            times(powers(0, 201), powers(0, 201))
        with self.assertRaises(TooLarge):
            times(powers(0, 400), powers(0, 400))

    def test_elements_of_400_and_401_monomials(self):
        self.assertIs(Polynomials().is_element(powers(0, 400)), True)
        # Point 7 bounds what comes out, not what an element is.
        self.assertIs(Polynomials().is_element(powers(0, 401)), True)


class DegreeTest(unittest.TestCase):
    def test_degrees(self):
        self.assertEqual(degree(()), 0)
        self.assertEqual(degree((((), 1),)), 0)
        self.assertEqual(degree((((), 99),)), 0)
        self.assertEqual(degree(X), 1)
        self.assertEqual(degree(((((3, 7),), 2),)), 7)
        self.assertEqual(degree(((((0, 1), (5, 2)), 9),)), 3)

    def test_the_greatest_counts(self):
        self.assertEqual(degree((((), 1), (((0, 2), (1, 2)), 1), (((0, 3),), 1))), 4)
        self.assertEqual(degree(((((0, 1), (1, 1)), 1), (((0, 3),), 1), (((2, 1),), 50))), 3)

    def test_against_the_words(self):
        chance = random.Random(6)
        for _ in range(50):
            a = some_polynomial(chance, [0, 1, 2], 6)
            self.assertEqual(degree(a), max([len(word) for word in plain(a)], default=0))


class ValueTest(unittest.TestCase):
    def test_values(self):
        self.assertEqual(value_at((), {}), 0)
        self.assertEqual(value_at((), {0: 5}), 0)
        self.assertEqual(value_at((((), 4),), {0: 5}), 4)
        self.assertEqual(value_at(X, {0: 5}), 5)
        self.assertEqual(value_at(((((0, 2), (1, 3)), 4),), {0: 3, 1: 2}), 4 * 9 * 8)
        self.assertEqual(value_at((((), 1), (((0, 1),), 2), (((0, 2),), 3)), {0: 10}), 321)

    def test_negative_numbers(self):
        self.assertEqual(value_at(X, {0: -5}), -5)
        self.assertEqual(value_at(((((0, 3),), 2),), {0: -2}), -16)
        self.assertEqual(value_at(((((0, 2),), 2),), {0: -2}), 8)
        self.assertEqual(value_at(((((0, 1), (1, 1)), 1), (((2, 1),), 1)), {0: -2, 1: 3, 2: 6}), 0)

    def test_facts_without_entry(self):
        self.assertEqual(value_at(X, {}), 0)
        self.assertEqual(value_at(((((0, 1), (1, 2)), 4),), {0: 3}), 0)
        self.assertEqual(value_at((((), 7), (((1, 2),), 4)), {0: 3}), 7)

    def test_high_exponents(self):
        for exponent in range(1, 70):
            for base in (-3, -1, 0, 1, 2, 7):
                element = ((((4, exponent),), 1),)
                self.assertEqual(value_at(element, {4: base}), base ** exponent)
        self.assertEqual(value_at(((((4, 10 ** 30 + 1),), 5),), {4: -1}), -5)

    def test_values_fit_sums_and_products(self):
        chance = random.Random(7)
        for _ in range(100):
            a, b = some_polynomial(chance, [0, 1, 2], 6), some_polynomial(chance, [0, 1, 2], 6)
            numbers = {fact: chance.randint(-9, 9) for fact in range(chance.randint(0, 3))}
            before = dict(numbers)
            one, other = value_at(a, numbers), value_at(b, numbers)
            self.assertEqual(value_at(Polynomials().plus(a, b), numbers), one + other)
            self.assertEqual(value_at(Polynomials().times(a, b), numbers), one * other)
            self.assertEqual(numbers, before)


class ElementsTest(unittest.TestCase):
    def test_elements(self):
        for a in [
            (), (((), 1),), (((), 10 ** 40),), X, powers(0, 9), ((((0, 5), (2, 1)), 3),),
            ((((0, 1),), 1), (((0, 1), (1, 1)), 2), (((0, 2),), 1), (((1, 1),), 1)),
        ]:
            self.assertIs(Polynomials().is_element(a), True, a)

    def test_numbers_out_of_range(self):
        check_no_elements(self, Polynomials(), [
            (((), 0),), (((), -1),), ((((0, 1),), 0),), ((((0, 0),), 1),), ((((0, -1),), 1),),
            ((((-1, 1),), 1),), ((((0, 1), (1, 0)), 1),), (((), 1), (((0, 1),), 0)),
        ])

    def test_pairs_out_of_order(self):
        check_no_elements(self, Polynomials(), [
            ((((1, 1), (0, 1)), 1),), ((((0, 1), (0, 1)), 1),), ((((0, 1), (0, 2)), 1),),
            ((((1, 1),), 1), (((0, 1),), 1)), ((((0, 1),), 1), ((), 1)),
            (((), 1), ((), 1)), (((), 1), ((), 2)), ((((0, 1),), 1), (((0, 1),), 2)),
            ((((0, 2),), 1), (((0, 1), (1, 1)), 1)),
        ])

    def test_pairs_of_other_lengths(self):
        check_no_elements(self, Polynomials(), [
            ((),), (((),),), (((), 1, 1),), ((((0,),), 1),), ((((0, 1, 1),), 1),),
            (((0, 1), 1),), ((0, 1),), (0, 1), ((), 1), ((((0, 1),),),),
        ])

    def test_other_kinds(self):
        check_no_elements(self, Polynomials(), STRANGE + [None, 0, 1, -1])
        for element in (X, (((), 2),), (((), 1), (((0, 1), (3, 2)), 2), (((1, 1),), 1))):
            check_no_elements(self, Polynomials(), spoiled(element))
