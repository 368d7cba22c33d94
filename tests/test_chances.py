import itertools
import math
import random
import unittest
from fractions import Fraction

from everyworth.chances import chance
from everyworth.engine import Engine
from everyworth.errors import TooLarge
from everyworth.reasons import least_whys


def plain_chance(whys, chances):
    """The sum over all ways in which the facts are there or not."""
    facts = sorted({fact for one in whys for fact in one})
    total = Fraction(0)
    for there in itertools.product([False, True], repeat=len(facts)):
        chosen = {fact for fact, yes in zip(facts, there) if yes}
        if any(set(one) <= chosen for one in whys):
            part = Fraction(1)
            for fact in facts:
                one = Fraction(*chances[fact])
                part *= one if fact in chosen else 1 - one
            total += part
    return total.numerator, total.denominator


def some_chances(luck, facts):
    """Chances in lowest terms, 0 and 1 among them."""
    found = {}
    for fact in facts:
        d = luck.randint(1, 12)
        n = luck.randint(0, d)
        found[fact] = n // math.gcd(n, d), d // math.gcd(n, d)
    return found


class ChanceTest(unittest.TestCase):
    def test_no_sets_and_the_empty_set(self):
        self.assertEqual(chance((), {}), (0, 1))
        self.assertEqual(chance((), {5: (1, 2)}), (0, 1))
        self.assertEqual(chance(((),), {}), (1, 1))
        self.assertEqual(chance(((),), {3: (0, 1)}), (1, 1))

    def test_small_ones(self):
        half, third = {0: (1, 2), 1: (1, 3), 7: (3, 4)}, (1, 3)
        self.assertEqual(chance(((0,),), half), (1, 2))
        self.assertEqual(chance(((1,),), half), third)
        self.assertEqual(chance(((0, 1),), half), (1, 6))
        self.assertEqual(chance(((0,), (1,)), half), (2, 3))
        self.assertEqual(chance(((0, 1), (0, 7)), half), (5, 12))
        self.assertEqual(chance(((0, 1, 7),), half), (1, 8))
        self.assertEqual(chance(((0,), (1,), (7,)), half), (11, 12))

    def test_facts_that_are_in_several_sets_count_once(self):
        chances = {k: (1, 2) for k in range(3)}
        self.assertEqual(chance(((0, 1), (0, 2), (1, 2)), chances), (1, 2))
        self.assertEqual(chance(((0, 1), (1, 2)), chances), (3, 8))

    def test_sets_that_are_no_least_ones(self):
        chances = {0: (1, 2), 1: (1, 5), 2: (2, 3)}
        self.assertEqual(chance(((0,), (0, 1)), chances), (1, 2))
        self.assertEqual(chance(((), (0, 1)), chances), (1, 1))
        self.assertEqual(chance(((0, 2), (0, 1, 2)), chances), (1, 3))

    def test_chances_of_0_and_1(self):
        sure, never = (1, 1), (0, 1)
        self.assertEqual(chance(((0,),), {0: sure}), (1, 1))
        self.assertEqual(chance(((0,),), {0: never}), (0, 1))
        self.assertEqual(chance(((0, 1), (2,)), {0: sure, 1: (2, 7), 2: never}), (2, 7))
        self.assertEqual(chance(((0, 1), (2,)), {0: never, 1: (2, 7), 2: never}), (0, 1))
        self.assertEqual(chance(((0, 1), (2,)), {0: never, 1: (2, 7), 2: sure}), (1, 1))

    def test_lowest_terms(self):
        self.assertEqual(chance(((0, 1),), {0: (2, 3), 1: (3, 4)}), (1, 2))
        self.assertEqual(chance(((0,), (1,)), {0: (1, 2), 1: (1, 3)}), (2, 3))
        n, d = chance(((0, 1), (1, 2), (3,)), {k: (6, 35) for k in range(4)})
        self.assertEqual(math.gcd(n, d), 1)
        large = 10 ** 40 + 1
        self.assertEqual(chance(((0, 1),), {0: (1, large), 1: (large - 1, large)}),
                         (large - 1, large ** 2))

    def test_against_a_plain_sum(self):
        luck = random.Random(41)
        for _ in range(150):
            facts = sorted(luck.sample(range(200), luck.randint(1, 9)))
            whys = tuple(
                tuple(sorted(luck.sample(facts, luck.randint(1, min(4, len(facts))))))
                for _ in range(luck.randint(0, 8))
            )
            chances = some_chances(luck, facts)
            self.assertEqual(chance(whys, chances), plain_chance(whys, chances), whys)

    def test_20_facts_and_21(self):
        for whys, told in (
            (tuple((k,) for k in range(20)), (2 ** 20 - 1, 2 ** 20)),
            ((tuple(range(20)),), (1, 2 ** 20)),
            (tuple((k, k + 1) for k in range(0, 20, 2)), (4 ** 10 - 3 ** 10, 4 ** 10)),
        ):
            chances = {k: (1, 2) for k in range(30)}
            self.assertEqual(chance(whys, chances), told)
            for more in (whys + ((20,),), whys + ((3, 25),), whys + (tuple(range(10, 21)),)):
                with self.assertRaises(TooLarge):
                    chance(more, chances)
        with self.assertRaises(TooLarge):
            chance(((), tuple(range(21))), {k: (1, 2) for k in range(21)})
        # Large numbers of facts, and facts of which only the chance is told, do not count.
        whys = tuple((10 ** 9 + k,) for k in range(20))
        chances = {10 ** 9 + k: (1, 2) for k in range(50)}
        self.assertEqual(chance(whys, chances), (2 ** 20 - 1, 2 ** 20))

    def test_many_sets_over_20_facts(self):
        luck = random.Random(42)
        whys = tuple(sorted({tuple(sorted(luck.sample(range(20), 6))) for _ in range(300)}))
        chances = {k: (1, 2) for k in range(20)}
        n, d = chance(whys, chances)
        # A bit for each of the ways in which the facts are there or not.
        every, found = (1 << 2 ** 20) - 1, 0
        tables = [every // ((1 << 2 ** k) + 1) << 2 ** k for k in range(20)]
        for one in whys:
            ways = every
            for k in one:
                ways &= tables[k]
            found |= ways
        self.assertEqual(Fraction(n, d), Fraction(bin(found).count("1"), 2 ** 20))

    def test_what_is_passed_is_not_changed(self):
        chances = {0: (1, 2), 1: (1, 3)}
        chance(((0,), (1,)), chances)
        self.assertEqual(chances, {0: (1, 2), 1: (1, 3)})

    def test_the_chance_of_a_row(self):
        engine = Engine([("edge", 2)])
        for row in ((1, 2), (2, 4), (1, 3), (3, 4), (2, 3)):
            engine.add("edge", row)
        engine.define("far", ("paths", ("table", "edge")))
        whys = least_whys(engine, "far", (1, 4))
        self.assertEqual(whys, ((0, 1), (0, 3, 4), (2, 3)))
        self.assertEqual(chance(whys, {k: (1, 2) for k in range(5)}), (15, 32))
