import itertools
import unittest

from everyworth.errors import AxiomError, WorthError
from everyworth.finite import Finite

from tests.axioms import STRANGE, check_axioms, check_no_elements, check_no_star, check_star


def table(n, told):
    return tuple(tuple(told(a, b) for b in range(n)) for a in range(n))


def remainders(n):
    return table(n, lambda a, b: (a + b) % n), table(n, lambda a, b: a * b % n), 1 % n


def stopped(n):
    top = n - 1
    return (
        table(n, lambda a, b: min(a + b, top)), table(n, lambda a, b: min(a * b, top)), min(1, top)
    )


def chain(n):
    return table(n, max), table(n, min), n - 1


def bits(n):
    return table(n, lambda a, b: a | b), table(n, lambda a, b: a & b), n - 1


def failing(plus, times, one, stars=None):
    """All codes that fail but "size" and "range", in order, told once more from point 8."""
    n = range(len(plus))
    pairs, triples = list(itertools.product(n, n)), list(itertools.product(n, n, n))
    holds = {
        "plus-order": all(plus[a][b] == plus[b][a] for a, b in pairs),
        "plus-group": all(plus[a][plus[b][c]] == plus[plus[a][b]][c] for a, b, c in triples),
        "zero": all(plus[0][a] == a for a in n),
        "times-order": all(times[a][b] == times[b][a] for a, b in pairs),
        "times-group": all(times[a][times[b][c]] == times[times[a][b]][c] for a, b, c in triples),
        "one": all(times[one][a] == a for a in n),
        "empty": all(times[0][a] == 0 for a in n),
        "spread": all(
            times[a][plus[b][c]] == plus[times[a][b]][times[a][c]] for a, b, c in triples
        ),
        "star": stars is None or all(
            stars[a] is None or stars[a] == plus[one][times[a][stars[a]]] for a in n
        ),
    }
    return [code for code in holds if not holds[code]]


RIGHT = [
    remainders(1), remainders(2), remainders(3), remainders(6), stopped(2), stopped(5),
    chain(2), chain(4), bits(4), bits(8),
]
OR, AND = ((0, 1), (1, 1)), ((0, 0), (0, 1))
# For each code tables in which nothing else fails.
ALONE = {
    "plus-order": (((0, 1), (0, 1)), AND, 1),
    "plus-group": (
        ((0, 1, 2), (1, 0, 0), (2, 0, 0)), ((0, 0, 0), (0, 1, 1), (0, 1, 2)), 2,
    ),
    "zero": (((0, 0), (0, 0)), AND, 1),
    "times-order": (
        ((0, 1, 2), (1, 0, 2), (2, 2, 2)), ((0, 0, 0), (0, 0, 0), (0, 1, 2)), 2,
    ),
    "times-group": (
        table(4, max), ((0, 0, 0, 0), (0, 0, 1, 1), (0, 1, 1, 2), (0, 1, 2, 3)), 3,
    ),
    "one": (((0, 1), (1, 0)), ((0, 0), (0, 0)), 0),
    "empty": (OR, OR, 0),
    "spread": (
        ((0, 1, 2), (1, 0, 2), (2, 2, 2)), ((0, 0, 0), (0, 0, 1), (0, 1, 2)), 2,
    ),
    "star": (OR, AND, 1, (1, 0)),
}


def swapped(whole, a, b, entry):
    row = whole[a]
    return whole[:a] + (row[:b] + (entry,) + row[b + 1:],) + whole[a + 1:]


class FiniteCase(unittest.TestCase):
    def refused(self, code, *told):
        with self.assertRaises(AxiomError) as caught:
            Finite(*told)
        self.assertEqual(caught.exception.code, code)
        self.assertIsInstance(caught.exception, WorthError)


class RightTablesTest(FiniteCase):
    def test_operations(self):
        for plus, times, one in RIGHT:
            semiring, n = Finite(plus, times, one), len(plus)
            self.assertEqual((semiring.zero(), semiring.one(), semiring.size()), (0, one, n))
            for a, b in itertools.product(range(n), repeat=2):
                self.assertEqual(semiring.plus(a, b), plus[a][b])
                self.assertEqual(semiring.times(a, b), times[a][b])
            check_axioms(self, semiring, range(n))

    def test_zero_and_one_may_be_equal_in_the_smallest_one(self):
        semiring = Finite(((0,),), ((0,),), 0)
        self.assertEqual((semiring.zero(), semiring.one(), semiring.size()), (0, 0, 1))

    def test_the_largest_ones(self):
        for plus, times, one in (remainders(32), stopped(32), chain(32), bits(32)):
            semiring = Finite(plus, times, one)
            self.assertEqual(semiring.size(), 32)
            self.assertEqual(semiring.plus(31, 30), plus[31][30])
            self.assertEqual(semiring.times(31, 30), times[31][30])

    def test_is_element(self):
        for n in (1, 2, 5, 32):
            semiring = Finite(*chain(n))
            for a in range(n):
                self.assertIs(semiring.is_element(a), True)
            check_no_elements(self, semiring, STRANGE + [-1, -n, n, n + 1, None, (), (0,)])

    def test_without_stars(self):
        for told in (chain(3), (*chain(3), None), (*chain(3), (None, None, None))):
            for a in range(3):
                check_no_star(self, Finite(*told), a)

    def test_with_stars(self):
        semiring = Finite(*chain(3), (2, 2, 2))
        for a in range(3):
            self.assertEqual(semiring.star(a), 2)
            check_star(self, semiring, a)

    def test_some_stars_missing(self):
        semiring = Finite(*remainders(5), (1, None, 4, 2, 3))
        self.assertEqual([semiring.star(a) for a in (0, 2, 3, 4)], [1, 4, 2, 3])
        for a in (0, 2, 3, 4):
            check_star(self, semiring, a)
        check_no_star(self, semiring, 1)

    def test_a_star_that_is_zero(self):
        semiring = Finite(((0,),), ((0,),), 0, (0,))
        self.assertEqual(semiring.star(0), 0)

    def test_stars_by_keyword(self):
        plus, times, one = stopped(3)
        semiring = Finite(plus_table=plus, times_table=times, one=one, stars=(1, 2, 2))
        self.assertEqual([semiring.star(a) for a in range(3)], [1, 2, 2])

    def test_what_is_passed_is_not_kept_or_changed(self):
        plus, times, one = remainders(3)
        passed = [list(row) for row in plus], [list(row) for row in times], one, [1, None, 2]
        semiring = Finite(*passed)
        self.assertEqual(passed[0], [list(row) for row in plus])
        self.assertEqual(passed[1], [list(row) for row in times])
        self.assertEqual(passed[3], [1, None, 2])
        passed[0][1][1] = passed[1][1][1] = passed[3][0] = 0
        passed[3][1] = 0
        passed[0].append([])
        passed[1][2] = []
        self.assertEqual((semiring.plus(1, 1), semiring.times(1, 1)), (2, 1))
        self.assertEqual((semiring.times(2, 2), semiring.size()), (1, 3))
        self.assertEqual((semiring.star(0), semiring.star(2)), (1, 2))
        check_no_star(self, semiring, 1)
        check_axioms(self, semiring, range(3))


class SizeTest(FiniteCase):
    def test_n_out_of_bounds(self):
        self.refused("size", (), (), 0)
        self.refused("size", (), (), 0, ())
        for told in (remainders(33), stopped(33), chain(33), chain(40)):
            self.refused("size", *told)

    def test_other_lengths(self):
        plus, times, one = chain(3)
        for wrong in (
            plus[:2], plus + ((2, 2, 2),), plus[:2] + ((2, 2),), ((0, 1, 2, 0),) + plus[1:],
            plus[:1] + ((),) + plus[2:], (),
        ):
            self.refused("size", wrong, times, one)
            self.refused("size", plus, wrong, one)
        self.refused("size", chain(2)[0], times, one)
        self.refused("size", plus, chain(4)[1], one)

    def test_other_lengths_of_stars(self):
        for stars in ((), (2,), (2, 2), (2, 2, 2, 2), (None,) * 4):
            self.refused("size", *chain(3), stars)


class RangeTest(FiniteCase):
    def test_entries(self):
        plus, times, one = chain(3)
        for a, b in itertools.product(range(3), repeat=2):
            for entry in (-1, -3, 3, 4, 10 ** 20):
                self.refused("range", swapped(plus, a, b, entry), times, one)
                self.refused("range", plus, swapped(times, a, b, entry), one)

    def test_one(self):
        plus, times, _ = chain(3)
        for one in (-1, -3, 3, 4, 10 ** 20):
            self.refused("range", plus, times, one)
        self.refused("range", ((0,),), ((0,),), 1)

    def test_stars(self):
        for star in (-1, -3, 3, 4):
            for place in range(3):
                stars = [2, None, 2]
                stars[place] = star
                self.refused("range", *chain(3), tuple(stars))


class CodesTest(FiniteCase):
    def test_each_code_by_itself(self):
        for code, told in ALONE.items():
            self.assertEqual(failing(*told), [code])
            self.refused(code, *told)

    def test_all_tables_of_two_numbers(self):
        rows = list(itertools.product(range(2), repeat=2))
        tables = list(itertools.product(rows, repeat=2))
        stars = [None] + list(itertools.product([None, 0, 1], repeat=2))
        for told in itertools.product(tables, tables, range(2), stars):
            codes = failing(*told)
            if codes:
                self.refused(codes[0], *told)
            else:
                Finite(*told)

    def test_one_or_two_other_entries_in_right_tables(self):
        for plus, times, one in (remainders(3), stopped(3), chain(3), bits(4)):
            n = range(len(plus))
            for a, b, entry in itertools.product(n, n, n):
                other = swapped(plus, a, b, entry)
                both = swapped(other, b, a, entry)
                for told in ((other, times, one), (both, times, one), (plus, other, one)):
                    self.check_first(told)
                other = swapped(times, a, b, entry)
                both = swapped(other, b, a, entry)
                for told in ((plus, other, one), (plus, both, one), (other, times, one)):
                    self.check_first(told)

    def check_first(self, told):
        codes = failing(*told)
        if codes:
            self.refused(codes[0], *told)
        else:
            Finite(*told)

    def test_wrong_one(self):
        for plus, times, one in RIGHT:
            for other in range(len(plus)):
                self.check_first((plus, times, other))

    def test_wrong_stars(self):
        for plus, times, one in RIGHT:
            n = len(plus)
            for a, star in itertools.product(range(n), repeat=2):
                stars = (None,) * a + (star,) + (None,) * (n - a - 1)
                self.check_first((plus, times, one, stars))

    def test_the_last_numbers_count_as_well(self):
        plus, times, one = chain(32)
        self.refused("plus-order", swapped(plus, 31, 30, 30), times, one)
        self.refused("times-order", plus, swapped(times, 30, 31, 31), one)
        self.refused("star", plus, times, one, (None,) * 31 + (0,))
        self.refused("zero", table(32, lambda a, b: min(max(a, b), 30)), times, one)
        plus, times, one = stopped(32)
        self.refused("one", plus, table(32, lambda a, b: min(a * b, 30)), one)


class TwoAtOnceTest(FiniteCase):
    def test_size_ahead_of_all_others(self):
        plus, times, one = chain(3)
        self.refused("size", plus, swapped(times, 0, 0, 9)[:2], one)
        self.refused("size", plus[:2], times, 7)
        self.refused("size", *chain(3), (9, 9))
        self.refused("size", ((0, 1), (0, 1)), AND, 1, (1,))

    def test_range_ahead_of_the_axioms(self):
        self.refused("range", ((0, 1), (0, 1)), AND, 2)
        self.refused("range", ((0, 0), (0, 0)), ((0, 0), (2, 1)), 1)
        self.refused("range", OR, AND, 0, (None, 2))
        self.refused("range", OR, ((0, 0), (1, 1)), 1, (-1, None))

    def test_axioms_in_order(self):
        cases = {
            ("plus-order", "zero"): (((0, 0), (1, 0)), AND, 1),
            ("plus-group", "zero"): (((1, 0), (0, 0)), AND, 1),
            ("zero", "times-order"): (((0, 0), (0, 0)), ((0, 0), (1, 1)), 1),
            ("times-order", "one"): (OR, ((0, 0), (1, 1)), 0),
            ("times-group", "one"): (OR, ((1, 0), (0, 0)), 0),
            ("one", "empty"): (OR, ((1, 1), (1, 1)), 1),
            ("empty", "spread"): (((0, 1), (1, 0)), OR, 0),
            ("spread", "star"): (*ALONE["spread"], (0, None, None)),
            ("plus-order", "star"): (((0, 1), (0, 1)), AND, 1, (1, None)),
        }
        for (first, second), told in cases.items():
            codes = failing(*told)
            self.assertEqual(codes[0], first, told)
            self.assertIn(second, codes, told)
            self.refused(first, *told)
