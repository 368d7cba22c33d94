import itertools
import random
import unittest
from functools import cmp_to_key

from everyworth.values import in_order, is_name, is_row, is_value

NO_VALUES = [True, False, None, 1.0, 0.0, b"", b"a", [], [1], (), (1,), {}, {1}, object(), int]


def order_of_values(one, other):
    """The order of point 4, told once more: integers ahead of texts, both ascending."""
    if isinstance(one, str) != isinstance(other, str):
        return 1 if isinstance(one, str) else -1
    return (one > other) - (one < other)


def order_of_rows(one, other):
    if len(one) != len(other):
        return len(one) - len(other)
    for a, b in zip(one, other):
        if a != b:
            return order_of_values(a, b)
    return 0


class NamesTest(unittest.TestCase):
    def test_lengths(self):
        for length in range(1, 13):
            self.assertIs(is_name("abcdefghijkl"[:length]), True)
        self.assertIs(is_name(""), False)
        self.assertIs(is_name("a" * 13), False)
        self.assertIs(is_name("a" * 40), False)

    def test_each_small_letter(self):
        for letter in "abcdefghijklmnopqrstuvwxyz":
            self.assertIs(is_name(letter), True)
            self.assertIs(is_name("m" * 11 + letter), True)

    def test_other_characters(self):
        small = "abcdefghijklmnopqrstuvwxyz"
        others = [chr(k) for k in range(256) if chr(k) not in small] + ["\u0430", "\u017f", "\uff41"]
        for other in others:
            for text in (other, "a" + other, other + "a", "a" + other + "a"):
                self.assertIs(is_name(text), False, repr(text))

    def test_other_kinds(self):
        for thing in NO_VALUES + [1, 0, -1, ["a"], ("a",), {"a"}, {"a": 1}]:
            self.assertIs(is_name(thing), False, repr(thing))


class ValuesTest(unittest.TestCase):
    def test_integers(self):
        for number in (0, 1, -1, 255, -256, 10 ** 60, -(10 ** 60)):
            self.assertIs(is_value(number), True)

    def test_texts(self):
        for text in ("", "a", "A b", " " * 20, "~" * 20, "12345678901234567890"):
            self.assertIs(is_value(text), True)
        for text in ("a" * 21, " " * 21, "a" * 100):
            self.assertIs(is_value(text), False)

    def test_each_character_of_texts(self):
        allowed = [chr(k) for k in range(32, 127) if k != 37]
        for letter in allowed:
            self.assertIs(is_value("x" + letter), True, repr(letter))
        others = [chr(k) for k in range(400) if chr(k) not in allowed]
        for letter in others:
            self.assertIs(is_value(letter), False, repr(letter))
            self.assertIs(is_value("x" + letter + "y"), False, repr(letter))

    def test_true_and_false_are_no_values(self):
        self.assertIs(is_value(True), False)
        self.assertIs(is_value(False), False)

    def test_other_kinds(self):
        for thing in NO_VALUES:
            self.assertIs(is_value(thing), False, repr(thing))


class RowsTest(unittest.TestCase):
    def test_lengths(self):
        for length in range(7):
            self.assertIs(is_row(tuple(range(length))), True, length)
        for length in range(7, 12):
            self.assertIs(is_row(tuple(range(length))), False, length)

    def test_values_in_rows(self):
        self.assertIs(is_row((1, "a", -1, "", "b" * 20)), True)
        self.assertIs(is_row(("b" * 21,)), False)
        for place in range(3):
            for thing in NO_VALUES:
                row = [1, "a", 2]
                row[place] = thing
                self.assertIs(is_row(tuple(row)), False, repr(row))

    def test_other_kinds(self):
        for thing in [True, False, None, 0, 1, "", "ab", b"", [], [1], ["a", 1], {}, {1: 2}, {1}]:
            self.assertIs(is_row(thing), False, repr(thing))


class OrderTest(unittest.TestCase):
    def test_integers_ahead_of_texts(self):
        rows = [("b",), (2,), ("",), (-3,), ("a",), (10,), ("10",), ("B",)]
        self.assertEqual(
            in_order(rows), [(-3,), (2,), (10,), ("",), ("10",), ("B",), ("a",), ("b",)]
        )

    def test_shorter_ahead_of_longer(self):
        rows = [(0, 0), ("z",), (), (0, 0, 0), (9,), (-1, "a")]
        self.assertEqual(in_order(rows), [(), (9,), ("z",), (-1, "a"), (0, 0), (0, 0, 0)])

    def test_first_different_value_decides(self):
        rows = [(1, "a", 0), (1, 2, "z"), ("a", 0, 0), (1, 2, 3), (1, "a", "")]
        expected = [(1, 2, 3), (1, 2, "z"), (1, "a", 0), (1, "a", ""), ("a", 0, 0)]
        self.assertEqual(in_order(rows), expected)

    def test_equal_rows_stand_once(self):
        rows = [(2,), (1,), (2,), (1,), ("1",), (), ()]
        self.assertEqual(in_order(rows), [(), (1,), (2,), ("1",)])
        self.assertEqual(in_order([]), [])
        self.assertEqual(in_order([()]), [()])

    def test_texts_of_one_beginning(self):
        rows = [("ab",), ("a",), ("aa",), ("b",), ("",)]
        self.assertEqual(in_order(rows), [("",), ("a",), ("aa",), ("ab",), ("b",)])

    def test_against_the_order_told_once_more(self):
        values = [-2, 0, 10, "", "0", "a", "aa"]
        rows = [row for k in range(3) for row in itertools.product(values, repeat=k)]
        expected = sorted(rows, key=cmp_to_key(order_of_rows))
        chance = random.Random(5)
        for _ in range(5):
            mixed = rows + chance.sample(rows, 20)
            chance.shuffle(mixed)
            self.assertEqual(in_order(mixed), expected)

    def test_what_is_passed_is_not_changed(self):
        rows = [(2,), (1,), (2,)]
        told = in_order(rows)
        self.assertEqual(rows, [(2,), (1,), (2,)])
        told.append("more")
        self.assertEqual(rows, [(2,), (1,), (2,)])
        one = [(1,)]
        self.assertIsNot(in_order(one), one)
        self.assertIs(type(in_order(one)), list)
