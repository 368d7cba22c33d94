import itertools
import unittest

from everyworth.errors import TooLarge
from everyworth.finite import Finite
from everyworth.mixed import Both
from everyworth.polynomials import Polynomials, variable
from everyworth.semirings import Costs, Events, Levels, Numbers
from everyworth.whys import Whys

from tests.axioms import (
    STRANGE, check_axioms, check_no_elements, check_no_star, check_star, spoiled,
)

NUMBERS = [0, 1, 2, 5]
COSTS = [None, 0, 1, 4]


class OperationsTest(unittest.TestCase):
    def test_part_by_part(self):
        first, second = Numbers(), Costs()
        both = Both(first, second)
        self.assertEqual((both.zero(), both.one()), ((0, None), (1, 0)))
        pairs = list(itertools.product(NUMBERS, COSTS))
        for a, b in itertools.product(pairs, repeat=2):
            self.assertEqual(both.plus(a, b), (first.plus(a[0], b[0]), second.plus(a[1], b[1])))
            self.assertEqual(both.times(a, b), (first.times(a[0], b[0]), second.times(a[1], b[1])))
            self.assertIs(type(both.plus(a, b)), tuple)
            self.assertIs(type(both.times(a, b)), tuple)

    def test_the_order_of_the_parts(self):
        both = Both(Costs(), Numbers())
        self.assertEqual((both.zero(), both.one()), ((None, 0), (0, 1)))
        self.assertEqual(both.plus((3, 4), (5, 6)), (3, 10))
        self.assertEqual(both.times((3, 4), (5, 6)), (8, 24))

    def test_axioms(self):
        elements = list(itertools.product(NUMBERS[:3], COSTS[:3]))
        check_axioms(self, Both(Numbers(), Costs()), elements)
        elements = list(itertools.product(range(3), [((0,),), ((0, 1), (2,))]))
        check_axioms(self, Both(Levels(2), Whys()), elements)
        elements = list(itertools.product([variable(0), variable(1)], range(4)))
        check_axioms(self, Both(Polynomials(), Events(2)), elements)

    def test_errors_of_the_parts(self):
        many = tuple((k,) for k in range(400))
        for both, a, b in (
            (Both(Whys(), Numbers()), (many, 0), (((400,),), 0)),
            (Both(Numbers(), Whys()), (0, many), (0, ((400,),))),
        ):
            with self.assertRaises(TooLarge):
                both.plus(a, b)


class StarsTest(unittest.TestCase):
    def test_both_have_one(self):
        both = Both(Numbers(), Costs())
        for cost in COSTS:
            self.assertEqual(both.star((0, cost)), (1, 0))
            check_star(self, both, (0, cost))
        both = Both(Levels(3), Events(2))
        self.assertEqual(both.star((1, 2)), (3, 3))
        check_star(self, both, (1, 2))
        self.assertIs(type(both.star((1, 2))), tuple)

    def test_one_part_has_none(self):
        for number in (1, 2, 7):
            for cost in COSTS:
                check_no_star(self, Both(Numbers(), Costs()), (number, cost))
                check_no_star(self, Both(Costs(), Numbers()), (cost, number))

    def test_no_part_has_one(self):
        check_no_star(self, Both(Numbers(), Numbers()), (1, 2))
        check_no_star(self, Both(Numbers(), Polynomials()), (1, variable(0)))


class ElementsTest(unittest.TestCase):
    def test_pairs(self):
        both = Both(Numbers(), Costs())
        for pair in itertools.product(NUMBERS, COSTS):
            self.assertIs(both.is_element(pair), True)
        check_no_elements(self, both, [
            (-1, 0), (0, -1), (None, 0), (None, None), (True, 0), (0, False), ("a", 0), (0, "a"),
            (0, (0,)), ((0,), 0), ((0, None), 0), (0, []), (1.0, 0),
        ])

    def test_other_lengths(self):
        both = Both(Costs(), Costs())
        check_no_elements(self, both, [(), (0,), (0, 0, 0), (0, 0, 0, 0), (None,)])

    def test_other_kinds(self):
        both = Both(Costs(), Costs())
        check_no_elements(self, both, STRANGE + [None, 0, 1, "ab", [0, 0], {0: 0, 1: 1}, b"ab"])
        both = Both(Whys(), Polynomials())
        check_no_elements(self, both, spoiled((((0,), (1, 2)), ((((0, 1),), 2),))))


class ProductOfProductsTest(unittest.TestCase):
    def setUp(self):
        bits = ((0, 1), (1, 1)), ((0, 0), (0, 1)), 1, (1, None)
        self.both = Both(Both(Numbers(), Costs()), Both(Finite(*bits), Levels(2)))

    def test_operations(self):
        both = self.both
        self.assertEqual(both.zero(), ((0, None), (0, 0)))
        self.assertEqual(both.one(), ((1, 0), (1, 2)))
        a, b = ((2, 3), (1, 1)), ((5, None), (0, 2))
        self.assertEqual(both.plus(a, b), ((7, 3), (1, 2)))
        self.assertEqual(both.times(a, b), ((10, None), (0, 1)))

    def test_axioms(self):
        parts = itertools.product([0, 2], [None, 3], [0, 1], [1])
        check_axioms(self, self.both, [((a, b), (c, d)) for a, b, c, d in parts])

    def test_stars(self):
        self.assertEqual(self.both.star(((0, 3), (0, 1))), ((1, 0), (1, 2)))
        check_star(self, self.both, ((0, 3), (0, 1)))
        check_no_star(self, self.both, ((1, 3), (0, 1)))
        check_no_star(self, self.both, ((0, 3), (1, 1)))

    def test_is_element(self):
        self.assertIs(self.both.is_element(((0, None), (1, 2))), True)
        check_no_elements(self, self.both, STRANGE + [
            None, 0, (0, 0), (0, None, 1, 2), ((0, None), 1), ((0, None), (1, 3)),
            ((0, None), (2, 2)), ((0, -1), (1, 2)), ((None, 0), (1, 2)), ((0, 0, 0), (1, 2)),
            ([0, None], (1, 2)), ((0, None), [1, 2]), [(0, None), (1, 2)],
        ])
