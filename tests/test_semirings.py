import unittest

from everyworth.errors import InvalidArgument
from everyworth.semirings import Costs, Events, Levels, Numbers

from tests.axioms import STRANGE, check_axioms, check_no_elements, check_no_star, check_star


class NumbersTest(unittest.TestCase):
    def test_operations(self):
        numbers = Numbers()
        self.assertEqual((numbers.zero(), numbers.one()), (0, 1))
        for a in range(12):
            for b in range(12):
                self.assertEqual(numbers.plus(a, b), a + b)
                self.assertEqual(numbers.times(a, b), a * b)

    def test_axioms(self):
        check_axioms(self, Numbers(), [0, 1, 2, 3, 7, 10, 10 ** 40])

    def test_stars(self):
        self.assertEqual(Numbers().star(0), 1)
        check_star(self, Numbers(), 0)
        for a in (1, 2, 3, 10 ** 40):
            check_no_star(self, Numbers(), a)

    def test_is_element(self):
        for a in (0, 1, 2, 10 ** 60):
            self.assertIs(Numbers().is_element(a), True)
        check_no_elements(self, Numbers(), STRANGE + [-1, -2, -(10 ** 60), None, ()])


class CostsTest(unittest.TestCase):
    def test_operations(self):
        costs = Costs()
        self.assertIsNone(costs.zero())
        self.assertEqual(costs.one(), 0)
        for a in range(9):
            for b in range(9):
                self.assertEqual(costs.plus(a, b), a if a < b else b)
                self.assertEqual(costs.times(a, b), a + b)

    def test_no_way(self):
        costs = Costs()
        for a in (0, 1, 5):
            self.assertEqual((costs.plus(a, None), costs.plus(None, a)), (a, a))
            self.assertEqual((costs.times(a, None), costs.times(None, a)), (None, None))
        self.assertIsNone(costs.plus(None, None))
        self.assertIsNone(costs.times(None, None))

    def test_axioms(self):
        check_axioms(self, Costs(), [None, 0, 1, 2, 3, 9, 10 ** 40])

    def test_stars(self):
        for a in (None, 0, 1, 2, 10 ** 40):
            self.assertEqual(Costs().star(a), 0)
            check_star(self, Costs(), a)

    def test_is_element(self):
        for a in (None, 0, 1, 2, 10 ** 60):
            self.assertIs(Costs().is_element(a), True)
        check_no_elements(self, Costs(), STRANGE + [-1, -2, -(10 ** 60), ()])


class LevelsTest(unittest.TestCase):
    def test_operations(self):
        levels = Levels(6)
        self.assertEqual((levels.zero(), levels.one()), (0, 6))
        for a in range(7):
            for b in range(7):
                self.assertEqual(levels.plus(a, b), a if a > b else b)
                self.assertEqual(levels.times(a, b), a if a < b else b)

    def test_axioms_and_stars(self):
        for top in (1, 2, 5):
            check_axioms(self, Levels(top), range(top + 1))
            for a in range(top + 1):
                self.assertEqual(Levels(top).star(a), top)
                check_star(self, Levels(top), a)

    def test_bounds_of_top(self):
        for top in (0, -1, -10):
            with self.assertRaises(InvalidArgument):
                Levels(top)
        self.assertEqual(Levels(1).one(), 1)
        self.assertEqual(Levels(10 ** 30).one(), 10 ** 30)

    def test_is_element(self):
        for top in (1, 3, 8):
            for a in range(top + 1):
                self.assertIs(Levels(top).is_element(a), True)
            check_no_elements(self, Levels(top), STRANGE + [-1, top + 1, top + 2, None, ()])


class EventsTest(unittest.TestCase):
    def test_operations(self):
        events = Events(4)
        self.assertEqual((events.zero(), events.one()), (0, 15))
        for a in range(16):
            for b in range(16):
                self.assertEqual(events.plus(a, b), a | b)
                self.assertEqual(events.times(a, b), a & b)

    def test_axioms_and_stars(self):
        for count in (0, 1, 2, 3):
            check_axioms(self, Events(count), range(2 ** count))
            for a in range(2 ** count):
                self.assertEqual(Events(count).star(a), 2 ** count - 1)
                check_star(self, Events(count), a)
        full = 2 ** 200 - 1
        check_axioms(self, Events(200), [1, 2 ** 199, full // 3, 12345])

    def test_bounds_of_count(self):
        for count in (-2, -1, 201, 202, 1000):
            with self.assertRaises(InvalidArgument):
                Events(count)
        self.assertEqual(Events(0).one(), 0)
        self.assertEqual(Events(200).one(), 2 ** 200 - 1)

    def test_is_element(self):
        for count in (0, 1, 3, 200):
            top = 2 ** count - 1
            self.assertIs(Events(count).is_element(0), True)
            self.assertIs(Events(count).is_element(top), True)
            check_no_elements(self, Events(count), STRANGE + [-1, top + 1, top + 2, None, ()])
