import itertools
import random
import unittest

from everyworth.errors import TooLarge
from everyworth.whys import Whys

from tests.axioms import (
    STRANGE, check_axioms, check_no_elements, check_star, spoiled,
)


def told(sets):
    """The element of a list of frozensets, reckoned plainly: those without a proper part."""
    least = {s for s in sets if not any(t < s for t in sets)}
    return tuple(sorted(tuple(sorted(s)) for s in least))


def plain(whys):
    return [frozenset(s) for s in whys]


def plain_plus(a, b):
    return told(plain(a) + plain(b))


def plain_times(a, b):
    return told([s | t for s in plain(a) for t in plain(b)])


def all_whys(facts):
    """All elements over a few facts."""
    sets = [s for k in range(len(facts) + 1) for s in itertools.combinations(facts, k)]
    chosen = [c for k in range(len(sets) + 1) for c in itertools.combinations(sets, k)]
    return sorted({told([frozenset(s) for s in c]) for c in chosen})


def some_whys(chance, facts, many, longest):
    sets = [frozenset(chance.sample(facts, chance.randint(0, longest))) for _ in range(many)]
    return told(sets)


def singles(first, last):
    return tuple((k,) for k in range(first, last))


class OperationsTest(unittest.TestCase):
    def test_zero_and_one(self):
        self.assertEqual(Whys().zero(), ())
        self.assertEqual(Whys().one(), ((),))

    def test_plus(self):
        plus = Whys().plus
        self.assertEqual(plus(((1,),), ((0,),)), ((0,), (1,)))
        self.assertEqual(plus(((0, 1),), ((1,),)), ((1,),))
        self.assertEqual(plus(((1,),), ((0, 1), (2,))), ((1,), (2,)))
        self.assertEqual(plus(((0, 1), (2,)), ((0, 1),)), ((0, 1), (2,)))
        self.assertEqual(plus(((0, 1), (2,)), ((),)), ((),))
        self.assertEqual(plus(((3, 10),), ((3, 9), (20,))), ((3, 9), (3, 10), (20,)))
        self.assertEqual(plus(((0, 5),), ((0, 1, 5), (0, 1, 6))), ((0, 1, 6), (0, 5)))

    def test_times(self):
        times = Whys().times
        self.assertEqual(times(((1,),), ((0,),)), ((0, 1),))
        self.assertEqual(times(((0,), (1,)), ((0,), (2,))), ((0,), (1, 2)))
        self.assertEqual(times(((0, 1), (2,)), ((),)), ((0, 1), (2,)))
        self.assertEqual(times(((0, 1), (2,)), ()), ())
        self.assertEqual(times(((7,),), ((2, 9), (5,))), ((2, 7, 9), (5, 7)))

    def test_large_numbers_of_facts(self):
        a, b = ((10 ** 30,),), ((0, 10 ** 40), (10 ** 30, 10 ** 50))
        self.assertEqual(Whys().plus(a, b), ((0, 10 ** 40), (10 ** 30,)))
        self.assertEqual(Whys().times(a, b), ((0, 10 ** 30, 10 ** 40), (10 ** 30, 10 ** 50)))

    def test_all_elements_of_three_facts(self):
        elements = all_whys([0, 2, 3])
        self.assertEqual(len(elements), 20)
        check_axioms(self, Whys(), elements)
        for a in elements:
            check_star(self, Whys(), a)
            self.assertEqual(Whys().star(a), ((),))
            for b in elements:
                self.assertEqual(Whys().plus(a, b), plain_plus(a, b), (a, b))
                self.assertEqual(Whys().times(a, b), plain_times(a, b), (a, b))

    def test_against_a_plain_reckoning(self):
        chance = random.Random(2)
        for _ in range(150):
            facts = chance.sample(range(40), 8)
            a = some_whys(chance, facts, chance.randint(0, 12), 5)
            b = some_whys(chance, facts, chance.randint(0, 12), 5)
            self.assertEqual(Whys().plus(a, b), plain_plus(a, b), (a, b))
            self.assertEqual(Whys().times(a, b), plain_times(a, b), (a, b))

    def test_axioms_over_many_triples(self):
        chance = random.Random(3)
        check_axioms(self, Whys(), [some_whys(chance, range(9), 5, 4) for _ in range(12)])

    def test_stars(self):
        for a in ((), ((),), ((0,),), ((0, 1), (2,)), singles(0, 400)):
            self.assertEqual(Whys().star(a), ((),))
            check_star(self, Whys(), a)


class BoundsTest(unittest.TestCase):
    def test_plus_up_to_400_sets(self):
        whys = Whys()
        self.assertEqual(whys.plus(singles(0, 200), singles(200, 400)), singles(0, 400))
        self.assertEqual(whys.plus(singles(0, 400), ()), singles(0, 400))
        with self.assertRaises(TooLarge):
            whys.plus(singles(0, 200), singles(200, 401))
        with self.assertRaises(TooLarge):
            whys.plus(singles(0, 400), ((400,),))

    def test_sets_that_are_left_out_do_not_count(self):
        whys = Whys()
        self.assertEqual(whys.plus(singles(0, 400), singles(0, 400)), singles(0, 400))
        self.assertEqual(whys.plus(singles(0, 400), ((),)), ((),))
        self.assertEqual(whys.plus(singles(0, 400), ((5, 900),)), singles(0, 400))
        self.assertEqual(whys.times(singles(0, 400), singles(0, 400)), singles(0, 400))

    def test_times_up_to_400_sets(self):
        whys = Whys()
        product = whys.times(singles(0, 20), singles(20, 40))
        self.assertEqual(product, tuple((a, b) for a in range(20) for b in range(20, 40)))
        self.assertEqual(len(product), 400)
        with self.assertRaises(TooLarge):
            whys.times(singles(0, 20), singles(20, 41))
        with self.assertRaises(TooLarge):
            whys.times(singles(0, 400), singles(400, 800))

    def test_elements_of_400_and_401_sets(self):
        self.assertIs(Whys().is_element(singles(0, 400)), True)
        # Point 7 bounds what comes out, not what an element is.
        self.assertIs(Whys().is_element(singles(0, 401)), True)
        self.assertIs(Whys().is_element(singles(0, 400) + ((400, 399),)), False)
        self.assertIs(Whys().is_element(((0, 401),) + singles(1, 402)), False)


class ElementsTest(unittest.TestCase):
    def test_elements(self):
        for a in all_whys([0, 1, 2]) + [((0, 3), (1,), (2, 4, 9)), ((10 ** 30,),)]:
            self.assertIs(Whys().is_element(a), True, a)

    def test_sets_that_do_not_ascend(self):
        check_no_elements(self, Whys(), [
            ((1, 0),), ((0, 0),), ((0, 1, 1),), ((0, 2, 1),), ((5,), (2, 0)),
        ])

    def test_tuples_that_do_not_ascend(self):
        check_no_elements(self, Whys(), [
            ((1,), (0,)), ((0,), (0,)), ((), ()), ((0,), (2,), (1,)), ((0, 2), (0, 1)),
        ])

    def test_sets_with_a_part(self):
        check_no_elements(self, Whys(), [
            ((), (0,)), ((0,), (0, 1)), ((0, 1), (1,)), ((0, 1, 2), (0, 2)),
            ((0, 1, 2), (2,)), ((0, 1), (0, 1, 2)), ((0, 3), (1,), (1, 2)),
        ])

    def test_numbers_and_other_kinds(self):
        check_no_elements(self, Whys(), STRANGE + [None, 0, 1, (0,), (1, 2), (0, (1,)), ((-1,),)])
        for element in (((0,),), ((0, 2), (1,)), ((1,), (2, 3, 4))):
            check_no_elements(self, Whys(), spoiled(element))
