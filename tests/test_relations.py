import copy
import random
import unittest

from askedthen.relations import (collected, combined, counted, kept, lessened, picked, picked_same, summed, united)
from askedthen.spans import ALWAYS, holds
from askedthen.values import in_order
from samples import some_spans

LAST = 40
POOL = [("a", 1, 1), ("a", 2, 7), ("b", 1, 7), ("b", 2, 2), ("", 0, 0), ("~", 999999, 5000000), ("a", 0, 1), ("ab", 7, 7)]


def some_relation(dice, pool=POOL):
    rows = in_order(dice.sample(pool, dice.randint(0, len(pool))))
    pairs = [(row, some_spans(dice.random(), 4, LAST)) for row in rows]
    return [(row, spans) for row, spans in pairs if spans]


def on(relation, day):
    return [row for row, spans in relation if holds(spans, day)]


def plain_total(rows, places, number_of):
    groups = {} if places else {(): 0}
    for row in rows:
        group = tuple(row[place] for place in places)
        groups[group] = groups.get(group, 0) + number_of(row)
    return [group + (total,) for group, total in groups.items()]


class Relations(unittest.TestCase):
    def assert_relation(self, relation):
        """Rows in order and unlike; spans in their one form and not empty."""
        self.assertIsInstance(relation, list)
        rows = [row for row, _ in relation]
        self.assertEqual(rows, in_order(list(dict.fromkeys(rows))))
        for pair in relation:
            self.assertIsInstance(pair, tuple)
            before = -1
            self.assertTrue(pair[1])
            self.assertIsInstance(pair[1], tuple)
            for part in pair[1]:
                self.assertIsInstance(part, tuple)
                self.assertTrue(before < part[0] < part[1] <= 10000)
                before = part[1]

    def check(self, make, mean, *relations):
        """Compare day by day, also on days on which nothing is told, the last one among them."""
        before = copy.deepcopy(relations)
        found = make(*relations)
        self.assert_relation(found)
        self.assertEqual(relations, before)
        for day in list(range(LAST + 2)) + [9999]:
            rows = mean(*[on(relation, day) for relation in relations])
            self.assertEqual(on(found, day), in_order(list(dict.fromkeys(rows))))
        found.append("more")
        self.assertEqual(relations, before)
        self.assertEqual(make(*relations), found[:-1])

    def test_collected(self):
        self.assertEqual(collected([]), [])
        self.assertEqual(collected([(("b",), ((5, 9),)), (("a",), ((0, 1),))]), [(("a",), ((0, 1),)), (("b",), ((5, 9),))])
        self.assertEqual(collected([(("a",), ()), (("b",), ())]), [])
        self.assertEqual(collected([(("a",), ((5, 9),)), (("a",), ()), (("a",), ((0, 5), (20, 30)))]),
                         [(("a",), ((0, 9), (20, 30)))])
        self.assertEqual(collected([(("a",), ((5, 9),)), (("b",), ((1, 2),)), (("a",), ((6, 7), (8, 12)))]),
                         [(("a",), ((5, 12),)), (("b",), ((1, 2),))])
        self.assertEqual(collected([((), ALWAYS), ((), ((3, 4),))]), [((), ALWAYS)])
        self.assertEqual(collected([(("a", 10), ((0, 1),)), (("a", 9), ((0, 1),)), ((5,), ((0, 1),)), (("a",), ((0, 1),))]),
                         [((5,), ((0, 1),)), (("a",), ((0, 1),)), (("a", 9), ((0, 1),)), (("a", 10), ((0, 1),))])

    def test_collected_of_many(self):
        dice = random.Random(1)
        for _ in range(150):
            pairs = [(dice.choice(POOL), some_spans(dice.random(), 3, LAST)) for _ in range(dice.randint(0, 15))]
            self.check(collected, lambda rows: rows, pairs)

    def test_picked(self):
        relation = [((0, "a"), ((0, 5),)), ((5, "a"), ((0, 1),)), ((5, "b"), ((2, 3), (4, 9))), ((10, "A"), ALWAYS)]
        self.assertEqual(picked(relation, 0, "=", 5), relation[1:3])
        self.assertEqual(picked(relation, 0, "<>", 5), [relation[0], relation[3]])
        self.assertEqual(picked(relation, 0, "<", 5), relation[:1])
        self.assertEqual(picked(relation, 0, ">", 5), relation[3:])
        self.assertEqual(picked(relation, 0, ">", 9), relation[3:])
        self.assertEqual(picked(relation, 1, "<", "a"), relation[3:])
        self.assertEqual(picked(relation, 1, ">", "a"), relation[2:3])
        self.assertEqual(picked(relation, 1, "=", "a"), relation[:2])
        self.assertEqual(picked([], 1, "=", "a"), [])

    def test_picked_of_values_of_unlike_kinds(self):
        relation = [((5,), ((0, 5),)), (("5",), ((0, 5),))]
        self.assertEqual(picked(relation, 0, "<", "5"), relation[:1])
        self.assertEqual(picked(relation, 0, ">", 5), relation[1:])
        self.assertEqual(picked(relation, 0, "<>", "5"), relation[:1])

    def test_picked_of_many(self):
        dice = random.Random(2)
        tests = {"=": lambda one, other: one == other, "<>": lambda one, other: one != other,
                 "<": lambda one, other: one < other, ">": lambda one, other: one > other}
        for _ in range(100):
            place, comparison = dice.choice([0, 1, 2]), dice.choice(list(tests))
            value = dice.choice(POOL)[place]
            self.check(lambda relation: picked(relation, place, comparison, value),
                       lambda rows: [row for row in rows if tests[comparison](row[place], value)], some_relation(dice))

    def test_picked_same(self):
        dice = random.Random(3)
        for _ in range(50):
            self.check(lambda relation: picked_same(relation, 1, 2), lambda rows: [row for row in rows if row[1] == row[2]],
                       some_relation(dice))
        relation = [((1, 1), ((0, 1),)), ((1, 2), ((0, 1),))]
        self.assertEqual(picked_same(relation, 0, 1), relation[:1])
        self.assertEqual(picked_same(relation, 1, 1), relation)

    def test_kept(self):
        relation = [(("a", 1), ((0, 5),)), (("a", 2), ((5, 9),)), (("a", 3), ((20, 30),)), (("b", 1), ((3, 7),))]
        self.assertEqual(kept(relation, [0]), [(("a",), ((0, 9), (20, 30))), (("b",), ((3, 7),))])
        self.assertEqual(kept(relation, [1, 0])[0], ((1, "a"), ((0, 5),)))
        self.assertEqual(kept(relation, [1])[0], ((1,), ((0, 7),)))
        self.assertEqual(kept(relation, [0, 0])[0], (("a", "a"), ((0, 9), (20, 30))))
        self.assertEqual(kept([], [0]), [])

    def test_kept_of_many(self):
        dice = random.Random(4)
        for _ in range(100):
            places = dice.choice([[0], [1], [2], [1, 0], [2, 1], [0, 1, 2], [2, 0, 1]])
            self.check(lambda relation: kept(relation, places),
                       lambda rows: [tuple(row[place] for place in places) for row in rows], some_relation(dice))

    def test_united_and_lessened(self):
        first = [(("a",), ((0, 5),)), (("b",), ((0, 5),))]
        second = [(("a",), ((5, 9), (11, 12))), (("c",), ((0, 1),))]
        self.assertEqual(united(first, second), [(("a",), ((0, 9), (11, 12))), (("b",), ((0, 5),)), (("c",), ((0, 1),))])
        self.assertEqual(lessened(first, second), first)
        self.assertEqual(lessened(first, [(("a",), ((2, 3),)), (("b",), ((0, 5),))]), [(("a",), ((0, 2), (3, 5)))])
        self.assertEqual(lessened(first, [(("a",), ALWAYS)]), first[1:])
        self.assertEqual((united([], []), lessened([], first), lessened(first, []), united(first, []), united([], first)),
                         ([], [], first, first, first))

    def test_united_and_lessened_of_many(self):
        dice = random.Random(5)
        for _ in range(100):
            first, second = some_relation(dice), some_relation(dice)
            self.check(united, lambda one, other: one + other, first, second)
            self.check(lessened, lambda one, other: [row for row in one if row not in other], first, second)
            self.check(lessened, lambda one, other: [], first, first)

    def test_combined(self):
        first = [(("a", 1), ((0, 5),)), (("a", 2), ((3, 9),)), (("b", 1), ((0, 5),))]
        second = [((1, "x"), ((4, 6),)), ((1, "y"), ((5, 6),)), ((2, "x"), ((0, 4), (5, 20))), ((3, "x"), ALWAYS)]
        self.assertEqual(combined(first, second, [(1, 0)], [1]),
                         [(("a", 1, "x"), ((4, 5),)), (("a", 2, "x"), ((3, 4), (5, 9))), (("b", 1, "x"), ((4, 5),))])
        self.assertEqual(combined(first, second[:1], [], [1, 0]),
                         [(("a", 1, "x", 1), ((4, 5),)), (("a", 2, "x", 1), ((4, 6),)), (("b", 1, "x", 1), ((4, 5),))])
        self.assertEqual(combined(first, first, [(0, 0), (1, 1)], []), first)
        self.assertEqual((combined([], second, [(1, 0)], [1]), combined(first, [], [(1, 0)], [1])), ([], []))

    def test_combined_can_meet_a_row_twice(self):
        first = [(("a",), ((0, 9),))]
        second = [(("x", 1), ((0, 3),)), (("x", 2), ((3, 5),))]
        self.assertEqual(combined(first, second, [], [0]), [(("a", "x"), ((0, 5),))])
        self.assertEqual(combined(first, second, [], []), [(("a",), ((0, 5),))])

    def test_combined_of_many(self):
        dice = random.Random(6)
        for _ in range(100):
            common, others = dice.choice([([], [0, 1, 2]), ([(1, 1)], [0, 2]), ([(1, 2), (2, 1)], [0]), ([(2, 1)], [2]),
                                          ([(0, 0), (1, 1), (2, 2)], [])])
            self.check(lambda one, other: combined(one, other, common, others),
                       lambda one, other: [row + tuple(theirs[place] for place in others) for row in one for theirs in other
                                           if all(row[a] == theirs[b] for a, b in common)],
                       some_relation(dice), some_relation(dice))

    def test_counted(self):
        relation = [(("a", 1), ((0, 5),)), (("a", 2), ((3, 9),)), (("a", 3), ((9, 10),)), (("b", 1), ((4, 6),))]
        self.assertEqual(counted(relation, [0]),
                         [(("a", 1), ((0, 3), (5, 10))), (("a", 2), ((3, 5),)), (("b", 1), ((4, 6),))])
        self.assertEqual(counted(relation, []),
                         [((0,), ((10, 10000),)), ((1,), ((0, 3), (6, 10))), ((2,), ((3, 4), (5, 6))), ((3,), ((4, 5),))])
        self.assertEqual(counted([], []), [((0,), ALWAYS)])
        self.assertEqual(counted([], [0]), [])
        self.assertEqual(counted([(("a",), ALWAYS)], []), [((1,), ALWAYS)])
        self.assertEqual(counted([(("a",), ((9999, 10000),))], []), [((0,), ((0, 9999),)), ((1,), ((9999, 10000),))])

    def test_summed(self):
        relation = [(("a", 0), ((0, 5),)), (("a", 7), ((3, 9),)), (("b", 999999), ((4, 6),)), (("b", 1000000), ((5, 6),))]
        self.assertEqual(summed(relation, [0], 1),
                         [(("a", 0), ((0, 3),)), (("a", 7), ((3, 9),)), (("b", 999999), ((4, 5),)), (("b", 1999999), ((5, 6),))])
        self.assertEqual(summed(relation, [], 1)[0], ((0,), ((0, 3), (9, 10000))))
        self.assertEqual(summed([], [], 1), [((0,), ALWAYS)])
        self.assertEqual(summed([], [0], 1), [])
        # The sums are alike on days on which other rows hold.
        self.assertEqual(summed([((3,), ((0, 2),)), ((4,), ((0, 2),)), ((7,), ((2, 4),))], [], 0),
                         [((0,), ((4, 10000),)), ((7,), ((0, 4),))])

    def test_totals_of_many(self):
        dice = random.Random(7)
        for _ in range(150):
            places = dice.choice([[], [0], [1], [2, 0], [0, 1, 2]])
            relation = some_relation(dice)
            self.check(lambda one: counted(one, places), lambda rows: plain_total(rows, places, lambda row: 1), relation)
            self.check(lambda one: summed(one, places, 2), lambda rows: plain_total(rows, places, lambda row: row[2]), relation)
            self.assertEqual(counted(relation, tuple(places)), counted(relation, places))


if __name__ == "__main__":
    unittest.main()
