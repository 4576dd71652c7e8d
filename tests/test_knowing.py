import random
import unittest

from askedthen.errors import AskError, InvalidArgument
from askedthen.knowing import Knowledge, row_entries
from askedthen.octets import is_key, key_octets
from askedthen.spans import are_spans
from askedthen.values import in_order
from samples import DAYS, ODD, SHOP, SMALL, WIDE, Same, Sour, spans_of
from test_deeds import BAD_DAYS, BAD_DEEDS, BAD_ROWS, BAD_TABLES, ROW
from test_schemas import WRONG

POOL = {
    "item": [ROW, ("mill", 3, "old"), ("Mill", 3, ""), ("Mill", 20, "old"), ("", 0, "Old old-OLD mill"),
             ("a b a", 999999, "b A"), ("...", 1, "7 up")],
    "price": [(0,), (1,), (2,), (10,), (999999,)],
    "tag": [("",), ("a",), ("A",), ("a b",), ("10",), ("2",)],
}
POINTS = [0, 1, 2, 5, 10, 100, 5000, 9998, 9999, 10000]


class Reckoning:
    """What is known, day by day."""

    def __init__(self):
        self.held = {(table, row): bytearray(DAYS) for table, rows in POOL.items() for row in rows}

    def apply(self, deed):
        """Do a deed and return what apply is to return."""
        start, stop = deed[-2:]
        touched = POOL[deed[1]] if deed[0] == "clear" else [deed[2]]
        changed = []
        for row in in_order(touched):
            held = self.held[deed[1], row]
            before = bytes(held)
            held[start:stop] = bytes([deed[0] == "keep"]) * (stop - start)
            if bytes(held) != before:
                changed.append((deed[1], row, spans_of(held)))
        return changed

    def rows(self, table):
        pairs = [(row, spans_of(self.held[table, row])) for row in in_order(POOL[table])]
        return [(row, spans) for row, spans in pairs if spans]


def some_deeds(seed, count):
    dice = random.Random(seed)
    deeds = []
    for _ in range(count):
        table = dice.choice(list(POOL))
        if dice.random() < 0.6:
            start, stop = sorted(dice.sample(POINTS, 2))
        else:
            start, stop = sorted(dice.sample(range(DAYS + 1), 2))
        word = dice.choice(["keep"] * 5 + ["drop"] * 3 + ["clear"])
        part = () if word == "clear" else (dice.choice(POOL[table]),)
        deeds.append((word, table) + part + (start, stop))
    return deeds


def known(*deeds):
    found = Knowledge(SHOP)
    for deed in deeds:
        found.apply(deed)
    return found


def all_told(knowledge):
    return (knowledge.entries(), [knowledge.rows(table) for table in POOL])


class RowEntries(unittest.TestCase):
    def test_a_row_without_texts(self):
        self.assertEqual(row_entries(SHOP, "price", (7,), ((0, 5),)), [(("t", "price", 7), ((0, 5),))])

    def test_the_order(self):
        row = ("b A b", 3, "Zoo a-b 7")
        days = ((3, 9), (12, 10000))
        expected = [("t", "item") + row]
        expected += [("w", "item", "name", word) + row for word in ("b", "a")]
        expected += [("w", "item", "note", word) + row for word in ("zoo", "a", "b", "7")]
        self.assertEqual(row_entries(SHOP, "item", row, days), [(key, days) for key in expected])
        self.assertEqual(row_entries(SHOP, "item", row, ()), [(key, ()) for key in expected])

    def test_no_words(self):
        self.assertEqual(row_entries(SHOP, "item", ("", 0, "..."), ()), [(("t", "item", "", 0, "..."), ())])

    def test_the_longest_key(self):
        row = ("a", "b", "c", "d", "e")
        found = row_entries(WIDE, "tttttttt", row, ((0, 1),))
        self.assertEqual([key for key, _ in found], [("t", "tttttttt") + row] + [
            ("w", "tttttttt", column, word) + row for column, word in
            (("a", "a"), ("b", "b"), ("c", "c"), ("d", "d"), ("eeeeeeee", "e"))])
        self.assertTrue(all(is_key(key) for key, _ in found))

    def test_what_is_returned_is_the_callers(self):
        row_entries(SHOP, "tag", ("a",), ()).clear()
        self.assertEqual(len(row_entries(SHOP, "tag", ("a",), ())), 2)


class Knowing(unittest.TestCase):
    def test_schema(self):
        for schema in WRONG + ODD:
            with self.assertRaises(AskError) as caught:
                Knowledge(schema)
            self.assertIs(type(caught.exception), InvalidArgument)
            self.assertEqual(caught.exception.name, "schema")
        for schema in (SHOP, SMALL, WIDE):
            self.assertEqual(Knowledge(schema).entries(), [])

    def test_nothing_is_known_at_first(self):
        empty = Knowledge(SHOP)
        for table, rows in POOL.items():
            self.assertEqual(empty.rows(table), [])
            for row in rows:
                self.assertEqual(empty.days(table, row), ())

    def test_keep_and_drop(self):
        found = Knowledge(SHOP)
        self.assertEqual(found.apply(("keep", "tag", ("a",), 5, 10)), [("tag", ("a",), ((5, 10),))])
        self.assertEqual(found.apply(("keep", "tag", ("a",), 6, 9)), [])
        self.assertEqual(found.apply(("keep", "tag", ("a",), 10, 12)), [("tag", ("a",), ((5, 12),))])
        self.assertEqual(found.apply(("drop", "tag", ("a",), 7, 8)), [("tag", ("a",), ((5, 7), (8, 12)))])
        self.assertEqual(found.apply(("drop", "tag", ("a",), 7, 8)), [])
        self.assertEqual(found.apply(("drop", "tag", ("b",), 0, 10000)), [])
        self.assertEqual(found.days("tag", ("a",)), ((5, 7), (8, 12)))
        self.assertEqual(found.apply(("drop", "tag", ("a",), 0, 10000)), [("tag", ("a",), ())])
        self.assertEqual(found.apply(("drop", "tag", ("a",), 0, 10000)), [])
        self.assertEqual(found.days("tag", ("a",)), ())
        self.assertEqual(found.rows("tag"), [])
        self.assertEqual(found.entries(), [])

    def test_clear(self):
        found = known(("keep", "tag", ("b",), 0, 5), ("keep", "tag", ("10",), 3, 9),
                      ("keep", "tag", ("a",), 5, 10), ("keep", "price", (3,), 0, 10000))
        self.assertEqual(found.apply(("clear", "tag", 0, 4)),
                         [("tag", ("10",), ((4, 9),)), ("tag", ("b",), ((4, 5),))])
        self.assertEqual(found.apply(("clear", "tag", 0, 4)), [])
        self.assertEqual(found.apply(("clear", "tag", 4, 9)),
                         [("tag", ("10",), ()), ("tag", ("a",), ((9, 10),)), ("tag", ("b",), ())])
        self.assertEqual(found.rows("tag"), [(("a",), ((9, 10),))])
        self.assertEqual(found.rows("price"), [((3,), ((0, 10000),))])
        self.assertEqual(Knowledge(SHOP).apply(("clear", "tag", 0, 10000)), [])

    def test_against_a_reckoning_day_by_day(self):
        for seed in range(6):
            found = Knowledge(SHOP)
            expected = Reckoning()
            for deed in some_deeds(seed, 150):
                changed = found.apply(deed)
                self.assertIs(type(changed), list)
                self.assertEqual(changed, expected.apply(deed), deed)
                for table, row, spans in changed:
                    self.assertTrue(are_spans(spans))
                    self.assertEqual(found.days(table, row), spans)
            for table in POOL:
                self.assertEqual(found.rows(table), expected.rows(table))
                for row in POOL[table]:
                    self.assertEqual(found.days(table, row), spans_of(expected.held[table, row]))

    def test_rows_are_in_order(self):
        found = Knowledge(SHOP)
        for table, rows in POOL.items():
            for row in reversed(in_order(rows)):
                found.apply(("keep", table, row, 3, 4))
        for table, rows in POOL.items():
            self.assertEqual(found.rows(table), [(row, ((3, 4),)) for row in in_order(rows)])

    def test_rows_and_tables_that_are_not_there(self):
        found = known(("keep", "price", (1,), 0, 5), ("keep", "tag", ("a",), 0, 5))
        for table, row in (("price", (2,)), ("tag", ("b",)), ("tag", (1,)), ("price", ("a",)),
                           ("prices", (1,)), ("name", ("a",)), ("", ()), ("item", (1,)),
                           ("price", (1, 1)), ("price", ()), ("price", (True,)), ("price", (1.0,))):
            self.assertEqual(found.days(table, row), (), (table, row))
        for row in BAD_ROWS:
            self.assertEqual(found.days("item", row), ())
        for table in BAD_TABLES:
            self.assertEqual(found.days(table, (1,)), ())
            self.assertEqual(found.rows(table), [])

    def test_the_same_row_in_two_tables(self):
        schema = (("a", (("n", "number"),)), ("b", (("n", "number"),)))
        found = Knowledge(schema)
        found.apply(("keep", "a", (1,), 0, 5))
        self.assertEqual(found.days("b", (1,)), ())
        found.apply(("keep", "b", (1,), 5, 9))
        found.apply(("clear", "a", 0, 10000))
        self.assertEqual(found.days("a", (1,)), ())
        self.assertEqual(found.days("b", (1,)), ((5, 9),))


class Entries(unittest.TestCase):
    def test_given_rows(self):
        found = known(("keep", "tag", ("Old old mill",), 3, 5), ("keep", "price", (7,), 0, 10000),
                      ("keep", "price", (300,), 1, 2), ("drop", "tag", ("Old old mill",), 4, 5))
        self.assertEqual(found.entries(), [
            (("t", "price", 7), ((0, 10000),)), (("t", "price", 300), ((1, 2),)),
            (("t", "tag", "Old old mill"), ((3, 4),)),
            (("w", "tag", "name", "mill", "Old old mill"), ((3, 4),)),
            (("w", "tag", "name", "old", "Old old mill"), ((3, 4),)),
        ])

    def test_entries_of_all_rows(self):
        for seed in range(4):
            found = known(*some_deeds(seed, 60))
            expected = [entry for table in POOL for row, spans in found.rows(table)
                        for entry in row_entries(SHOP, table, row, spans)]
            expected.sort(key=lambda entry: key_octets(entry[0]))
            self.assertEqual(found.entries(), expected)
            keys = [key_octets(key) for key, _ in expected]
            self.assertEqual(len(set(keys)), len(keys))
            self.assertTrue(all(are_spans(spans) and spans for _, spans in found.entries()))


class Promises(unittest.TestCase):
    DEEDS = [("keep", "item", ROW, 0, 50), ("keep", "price", (1,), 3, 9), ("keep", "tag", ("a b",), 5, 10000),
             ("drop", "item", ROW, 7, 8), ("keep", "item", ("", 0, "x"), 1, 2)]

    def test_errors_change_nothing(self):
        found = known(*self.DEEDS)
        before = all_told(found)
        wrong = [(deed, "deed") for deed in BAD_DEEDS + ODD]
        for table in BAD_TABLES:
            wrong += [(("keep", table, ROW, 0, 9), "table"), (("clear", table, 0, 9), "table")]
        for row in BAD_ROWS:
            wrong += [(("keep", "item", row, 0, 9), "row"), (("drop", "item", row, 0, 9), "row")]
        for days in BAD_DAYS:
            wrong += [(("keep", "item", ROW) + days, "days"), (("drop", "item", ROW) + days, "days"),
                      (("clear", "item") + days, "days")]
        wrong += [(("keep", "items", (), 5, 5), "table"), (("drop", "item", (), 5, 5), "row"),
                  (("clear", Same(), 5, 5), "table"), (("keep", "item", Sour(), 5, 5), "row")]
        for deed, name in wrong:
            with self.assertRaises(AskError) as caught:
                found.apply(deed)
            self.assertIs(type(caught.exception), InvalidArgument)
            self.assertEqual(caught.exception.name, name)
            self.assertEqual(all_told(found), before)

    def test_what_is_returned_is_the_callers(self):
        found = known(*self.DEEDS)
        before = all_told(found)
        found.entries().clear()
        found.rows("item").append(None)
        found.apply(("keep", "item", ROW, 0, 50)).append(None)
        found.apply(("drop", "item", ROW, 7, 8)).clear()
        self.assertEqual(all_told(found), before)

    def test_what_was_returned_stays(self):
        found = known(*self.DEEDS)
        told = (found.entries(), found.rows("item"), found.apply(("keep", "tag", ("b",), 1, 2)))
        copies = tuple(list(part) for part in told)
        for deed in some_deeds(8, 30):
            found.apply(deed)
        self.assertEqual(told, copies)

    def test_two_of_them_do_not_share(self):
        one = Knowledge(SHOP)
        other = Knowledge(SHOP)
        one.apply(("keep", "tag", ("a",), 0, 5))
        self.assertEqual(other.days("tag", ("a",)), ())
        self.assertEqual(other.entries(), [])


if __name__ == "__main__":
    unittest.main()
