import itertools
import unittest

from askedthen import spans as spans_module
from askedthen.spans import (ALWAYS, LAST, NEVER, are_days, are_spans, holds, is_day, joined, less,
                             meet, pieces, points_of, unite)
from samples import DAYS, ODD, flags, some_spans, spans_of

# The bounds, and sets of days that touch, contain or miss each other.
GIVEN = [
    (), ((0, 10000),), ((0, 1),), ((9999, 10000),), ((0, 1), (9999, 10000)), ((1, 9999),),
    ((0, 5),), ((5, 10),), ((3, 7),), ((0, 5), (6, 10)), ((5, 6),), ((0, 3), (5, 8), (10, 12)),
    ((1, 2), (3, 4), (5, 6), (7, 8)), ((2, 3), (4, 5), (6, 7)), ((0, 4999), (5000, 10000)),
]
RANDOM = [some_spans(seed, 12) for seed in range(12)] + [some_spans(99, 2000), some_spans(98, 2000)]
SHORT = [some_spans(seed, 4, 9) for seed in range(40)]


class Days(unittest.TestCase):
    def test_constants(self):
        self.assertEqual((LAST, NEVER, ALWAYS), (10000, (), ((0, 10000),)))
        self.assertTrue(are_spans(NEVER))
        self.assertTrue(are_spans(ALWAYS))

    def test_is_day(self):
        for value, expected in ((-1, False), (0, True), (9999, True), (10000, False), (10001, False)):
            self.assertIs(is_day(value), expected)
        for value in ODD + ["", "1", (), (1,)]:
            self.assertIs(is_day(value), False, repr(type(value)))

    def test_are_days(self):
        bounds = (-1, 0, 1, 9999, 10000, 10001)
        for start, stop in itertools.product(bounds, repeat=2):
            expected = 0 <= start < stop <= 10000
            self.assertIs(are_days(start, stop), expected, (start, stop))
        for value in ODD + ["", "1", (), (1,)]:
            self.assertIs(are_days(value, 5), False, repr(type(value)))
            self.assertIs(are_days(0, value), False, repr(type(value)))
            self.assertIs(are_days(value, value), False, repr(type(value)))


class AreSpans(unittest.TestCase):
    def test_spans(self):
        for spans in GIVEN + RANDOM + SHORT:
            if spans == spans_of(flags(spans)):
                self.assertIs(are_spans(spans), True, spans)
        self.assertIs(are_spans(tuple((day, day + 1) for day in range(0, 10000, 2))), True)

    def test_no_spans(self):
        wrong = [
            ((0, 0),), ((5, 4),), ((0, 10001),), ((-1, 5),), ((10000, 10000),), ((10000, 10001),),
            ((0, 5), (5, 6)), ((0, 5), (4, 6)), ((5, 6), (0, 4)), ((0, 5), (0, 5)), ((5, 9), (2, 3)),
            ((0, 1), (3, 3)), ((0, 1), (2, 3), (3, 4)), ((0, 9), (1, 2)),
            [(0, 5)], [], ([0, 5],), ((0, 5), [6, 7]), (0, 5), ((0,),), ((0, 5, 6),), ((),), (None,),
            ((False, 5),), ((0, True),), ((True, 5),), ((0, 5.0),), ((0.0, 5),), (("0", "5"),),
            ((None, 5),), ((0, None),), ("ab",), ("",), {(0, 5)}, {(0, 5): 1}, "", 0, -1, 7,
            ((0, 5), None), ((0, 5), 6),
        ]
        for spans in wrong:
            self.assertIs(are_spans(spans), False, spans)

    def test_other_things(self):
        for value in ODD:
            self.assertIs(are_spans(value), False, repr(type(value)))
            self.assertIs(are_spans((value,)), False, repr(type(value)))
            self.assertIs(are_spans(((0, value),)), False, repr(type(value)))
            self.assertIs(are_spans(((value, 5),)), False, repr(type(value)))
            self.assertIs(are_spans(((0, 5), value)), False, repr(type(value)))


class Sets(unittest.TestCase):
    def test_holds(self):
        for spans in GIVEN + RANDOM[:4]:
            expected = flags(spans)
            self.assertEqual([holds(spans, day) for day in range(DAYS)], expected)
        self.assertIs(holds(((3, 5),), 3), True)
        self.assertIs(holds(((3, 5),), 5), False)
        self.assertIs(holds((), 0), False)

    def check(self, first, second):
        one = flags(first)
        other = flags(second)
        pairs = list(zip(one, other))
        for name, found, expected in (
            ("unite", unite(first, second), [a or b for a, b in pairs]),
            ("meet", meet(first, second), [a and b for a, b in pairs]),
            ("less", less(first, second), [a and not b for a, b in pairs]),
        ):
            self.assertTrue(are_spans(found), (name, found))
            self.assertEqual(found, spans_of(expected), name)

    def test_given_sets(self):
        for first, second in itertools.product(GIVEN, repeat=2):
            self.check(first, second)

    def test_random_sets(self):
        for first, second in itertools.product([s for s in RANDOM if are_spans(s)], repeat=2):
            self.check(first, second)

    def test_all_sets_of_few_days(self):
        small = [spans_of([bool(bits >> day & 1) for day in range(5)]) for bits in range(32)]
        for first, second in itertools.product(small, repeat=2):
            one, other = flags(first)[:5], flags(second)[:5]
            self.assertEqual(unite(first, second), spans_of([a or b for a, b in zip(one, other)]))
            self.assertEqual(meet(first, second), spans_of([a and b for a, b in zip(one, other)]))
            self.assertEqual(less(first, second),
                             spans_of([a and not b for a, b in zip(one, other)]))

    def test_all_days(self):
        for spans in GIVEN:
            self.assertEqual(unite(spans, ALWAYS), ALWAYS)
            self.assertEqual(meet(spans, ALWAYS), spans)
            self.assertEqual(less(spans, ALWAYS), NEVER)
            self.assertEqual(less(spans, NEVER), spans)
            self.assertEqual(unite(less(ALWAYS, spans), spans), ALWAYS)


class Points(unittest.TestCase):
    def test_points_of(self):
        self.assertEqual(points_of([]), [])
        self.assertEqual(points_of([(), ()]), [])
        self.assertEqual(points_of([((3, 9),), (), ((0, 3), (5, 10000)), ((3, 9),)]),
                         [0, 3, 5, 9, 10000])
        self.assertEqual(points_of([((9, 100),), ((10, 11),)]), [9, 10, 11, 100])
        rows = RANDOM[:6]
        expected = sorted(set(point for spans in rows for pair in spans for point in pair))
        self.assertEqual(points_of(rows), expected)

    def test_the_list_handed_in_stays(self):
        rows = [((3, 9),), ((0, 3),)]
        points_of(rows).append(1)
        self.assertEqual(rows, [((3, 9),), ((0, 3),)])
        points = [0, 3, 9]
        pieces(points).clear()
        self.assertEqual(points, [0, 3, 9])
        pairs = [(0, 3), (3, 9)]
        joined(pairs)
        self.assertEqual(pairs, [(0, 3), (3, 9)])

    def test_pieces(self):
        self.assertEqual(pieces([]), [])
        self.assertEqual(pieces([4]), [])
        self.assertEqual(pieces([4, 7]), [(4, 7)])
        self.assertEqual(pieces([0, 3, 5, 9]), [(0, 3), (3, 5), (5, 9)])
        self.assertIs(type(pieces([1, 2])), list)

    def test_joined(self):
        self.assertEqual(joined([]), ())
        self.assertEqual(joined([(0, 3)]), ((0, 3),))
        self.assertEqual(joined([(0, 3), (3, 5), (5, 9)]), ((0, 9),))
        self.assertEqual(joined([(0, 3), (4, 5), (5, 9), (9, 10), (12, 10000)]),
                         ((0, 3), (4, 10), (12, 10000)))

    def test_joined_pieces_of_a_set(self):
        for spans in GIVEN:
            points = points_of(GIVEN)
            inside = [pair for pair in pieces(points) if holds(spans, pair[0])]
            self.assertEqual(joined(inside), spans)

    def test_module_values_stay(self):
        unite(ALWAYS, NEVER)
        less(ALWAYS, ((3, 4),))
        self.assertEqual(spans_module.ALWAYS, ((0, 10000),))


if __name__ == "__main__":
    unittest.main()
