import itertools
import random
import unittest

from askedthen.values import COMPARISONS, compares, in_order, is_number, is_text, kind_of, order_of, reduced
from samples import ODD


def is_ahead(one, other):
    """Whether a row is ahead of another one, as point 4 tells it."""
    for first, second in zip(one, other):
        if first != second:
            if isinstance(first, str) != isinstance(second, str):
                return isinstance(second, str)
            return first < second
    return len(one) < len(other)


class Numbers(unittest.TestCase):
    def test_bounds(self):
        for most in (0, 1, 255, 9999, 999999, 10 ** 30):
            self.assertIs(is_number(0, most), True)
            self.assertIs(is_number(most, most), True)
            self.assertIs(is_number(most + 1, most), False)
            self.assertIs(is_number(-1, most), False)

    def test_other_things(self):
        for value in ODD + ["", "1", (), (1,)]:
            self.assertIs(is_number(value, 999999), False, repr(type(value)))


class Texts(unittest.TestCase):
    def test_lengths(self):
        self.assertIs(is_text(""), True)
        self.assertIs(is_text("a"), True)
        self.assertIs(is_text("~" * 40), True)
        self.assertIs(is_text("a" * 41), False)

    def test_characters(self):
        for code in list(range(0, 300)) + [0x2028, 0xd800, 0xffff, 0x10ffff]:
            expected = 32 <= code <= 126
            self.assertIs(is_text(chr(code)), expected, code)
            self.assertIs(is_text("ab" + chr(code)), expected, code)
            self.assertIs(is_text(chr(code) + "ab"), expected, code)

    def test_other_things(self):
        for value in ODD + [0, 1, (), ("a",)]:
            self.assertIs(is_text(value), False, repr(type(value)))


class Kinds(unittest.TestCase):
    def test_numbers(self):
        for value in (0, 1, 999998, 999999):
            self.assertEqual(kind_of(value), "number")
        for value in (-1, 1000000, 10 ** 30, -10 ** 30):
            self.assertIsNone(kind_of(value))

    def test_texts(self):
        for value in ("", " ", "~", "a" * 40, "Mill 7!", "0"):
            self.assertEqual(kind_of(value), "text")
        for value in ("a" * 41, "\x1f", "\x7f", "\n", "\u00e9", "a\u20ac"):
            self.assertIsNone(kind_of(value))

    def test_other_things(self):
        for value in ODD + [(), (1,), ("a",)]:
            self.assertIsNone(kind_of(value), repr(type(value)))


class Order(unittest.TestCase):
    IN_ORDER = [
        (), (0,), (0, 0), (0, 0, ""), (0, 1), (0, ""), (1,), (2,), (10,), (10, "a"), (999999,),
        (1000000,), (10 ** 12,), ("",), ("", 0), ("", ""), (" ",), ("10",), ("2",), ("A",), ("B", 3),
        ("a",), ("a", 5), ("a", " "), ("a b",), ("aa",), ("b",), ("~",),
    ]

    def test_given_rows(self):
        for seed in range(20):
            rows = list(self.IN_ORDER)
            random.Random(seed).shuffle(rows)
            self.assertEqual(in_order(rows), self.IN_ORDER)

    def test_order_of_agrees(self):
        for (at, one), (place, other) in itertools.product(list(enumerate(self.IN_ORDER)), repeat=2):
            self.assertEqual(order_of(one) < order_of(other), at < place)
            self.assertEqual(order_of(one) == order_of(other), at == place)

    def test_all_short_rows(self):
        values = [0, 1, 10, 2000000, "", "0", "a", "aa"]
        rows = [row for size in range(4) for row in itertools.product(values, repeat=size)]
        random.Random(1).shuffle(rows)
        found = in_order(rows)
        self.assertEqual(len(found), len(rows))
        for one, other in zip(found, found[1:]):
            self.assertTrue(is_ahead(one, other), (one, other))

    def test_the_list_handed_in_stays(self):
        rows = [(2,), ("a",), (1,)]
        found = in_order(rows)
        self.assertEqual(rows, [(2,), ("a",), (1,)])
        self.assertEqual(found, [(1,), (2,), ("a",)])
        found.append((0,))
        self.assertEqual(rows, [(2,), ("a",), (1,)])
        rows = [(1,), (2,)]
        in_order(rows).clear()
        self.assertEqual(rows, [(1,), (2,)])

    def test_compares(self):
        values = [0, 1, 9, 10, 5000000, "", " ", "0", "9", "A", "a", "aa"]
        for (at, one), (place, other) in itertools.product(list(enumerate(values)), repeat=2):
            told = [compares(one, comparison, other) for comparison in COMPARISONS]
            self.assertEqual(told, [at == place, at != place, at < place, at > place])

    def test_reduced(self):
        self.assertEqual(reduced(("a", "b", 3), [2, 0]), (3, "a"))
        self.assertEqual(reduced(("a", "b", 3), [1, 1]), ("b", "b"))
        self.assertEqual((reduced(("a",), []), reduced((), ())), ((), ()))

    def test_equal_rows_all_stay(self):
        self.assertEqual(in_order([(1,), ("a",), (1,)]), [(1,), (1,), ("a",)])
        self.assertEqual(in_order([]), [])
        self.assertIs(type(in_order([])), list)


if __name__ == "__main__":
    unittest.main()
