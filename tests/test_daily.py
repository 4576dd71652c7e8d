import copy
import random
import unittest

from askedthen.daily import meaning
from askedthen.errors import BadQuestion
from askedthen.values import in_order
from plain_questions import plain_meaning, some_question, some_tables
from samples import SHOP

ITEM, PRICE, TAG = ("table", "item"), ("table", "price"), ("table", "tag")
TABLES = {
    "item": [("Old mill", 300, "old"), ("Tea", 20, "Tea"), ("New mill", 20, "a mill, new"), ("Tea", 5, "")],
    "price": [(300,), (20,), (7,)],
    "tag": [("Tea",), ("Old mill",), ("tea",)],
}
NONE = {"item": [], "price": [], "tag": []}
TEA5, TEA20, NEW, OLD = ("Tea", 5, ""), ("Tea", 20, "Tea"), ("New mill", 20, "a mill, new"), ("Old mill", 300, "old")

MEANINGS = [
    (ITEM, [NEW, OLD, TEA5, TEA20]), (PRICE, [(7,), (20,), (300,)]), (TAG, [("Old mill",), ("Tea",), ("tea",)]),
    (("found", "item", "name", ("word", "mill")), [NEW, OLD]), (("found", "item", "note", ("word", "mill")), [NEW]),
    (("found", "item", "note", ("none", ("word", "mill"))), [OLD, TEA5, TEA20]),
    (("found", "tag", "name", ("word", "tea")), [("Tea",), ("tea",)]),
    (("pick", ITEM, "price", "=", 20), [NEW, TEA20]), (("pick", ITEM, "price", "<>", 20), [OLD, TEA5]),
    (("pick", ITEM, "price", "<", 20), [TEA5]), (("pick", ITEM, "price", ">", 20), [OLD]),
    (("pick", ITEM, "name", "<", "Old"), [NEW]), (("pick", ITEM, "name", ">", "Old"), [OLD, TEA5, TEA20]),
    (("pick", ITEM, "name", ">", "Old mill"), [TEA5, TEA20]), (("pick", ITEM, "note", "=", ""), [TEA5]),
    (("pick", PRICE, "price", "<", 20), [(7,)]), (("pick", PRICE, "price", ">", 7), [(20,), (300,)]),
    (("same", ITEM, "name", "note"), [TEA20]), (("same", ITEM, "note", "note"), [NEW, OLD, TEA5, TEA20]),
    (("keep", ITEM, ("price",)), [(5,), (20,), (300,)]), (("keep", ITEM, ("price", "name")),
     [(5, "Tea"), (20, "New mill"), (20, "Tea"), (300, "Old mill")]),
    (("name", ITEM, "price", "cost"), [NEW, OLD, TEA5, TEA20]),
    (("join", ITEM, PRICE), [NEW, OLD, TEA20]), (("join", PRICE, ITEM),
     [(20, "New mill", "a mill, new"), (20, "Tea", "Tea"), (300, "Old mill", "old")]),
    (("join", ("join", ITEM, PRICE), TAG), [OLD, TEA20]), (("join", ITEM, ("keep", ITEM, ("name", "note"))),
     [NEW, OLD, TEA5, TEA20]),
    (("join", PRICE, ("pick", TAG, "name", ">", "P")), [(7, "Tea"), (7, "tea"), (20, "Tea"), (20, "tea"), (300, "Tea"),
                                                       (300, "tea")]),
    (("join", PRICE, PRICE), [(7,), (20,), (300,)]),
    (("unite", TAG, ("keep", ITEM, ("name",))), [("New mill",), ("Old mill",), ("Tea",), ("tea",)]),
    (("unite", PRICE, ("keep", ITEM, ("price",))), [(5,), (7,), (20,), (300,)]),
    (("less", TAG, ("keep", ITEM, ("name",))), [("tea",)]), (("less", ("keep", ITEM, ("name",)), TAG), [("New mill",)]),
    (("less", ITEM, ITEM), []),
    (("count", ITEM, ("name",)), [("New mill", 1), ("Old mill", 1), ("Tea", 2)]), (("count", ITEM, ()), [(4,)]),
    (("count", ITEM, ("price",)), [(5, 1), (20, 2), (300, 1)]),
    (("sum", ITEM, ("name",), "price"), [("New mill", 20), ("Old mill", 300), ("Tea", 25)]),
    (("sum", ITEM, (), "price"), [(345,)]), (("sum", ITEM, ("price",), "price"), [(5, 5), (20, 40), (300, 300)]),
    (("count", ("pick", ITEM, "price", "=", 6), ()), [(0,)]), (("count", ("pick", ITEM, "price", "=", 6), ("name",)), []),
    (("sum", ("pick", ITEM, "price", "=", 6), (), "price"), [(0,)]),
    (("sum", ("pick", ITEM, "price", "=", 6), ("note",), "price"), []),
]


class Daily(unittest.TestCase):
    def test_meanings(self):
        for question, rows in MEANINGS:
            found = meaning(question, SHOP, TABLES)
            self.assertIsInstance(found, list)
            self.assertEqual(found, rows, question)

    def test_any_order_of_rows(self):
        dice = random.Random(1)
        for question, rows in MEANINGS:
            tables = {name: dice.sample(TABLES[name], len(TABLES[name])) for name in ("tag", "price", "item")}
            self.assertEqual(meaning(question, SHOP, tables), rows)

    def test_many_questions(self):
        dice = random.Random(32)
        with_rows = 0
        for _ in range(400):
            tables = some_tables(dice)
            question = some_question(dice, dice.randint(0, 5))
            found = meaning(question, SHOP, tables)
            self.assertEqual(found, in_order(list(plain_meaning(question, tables))), question)
            with_rows += len(found) > 1
        self.assertGreater(with_rows, 100)

    def test_a_day_without_rows(self):
        self.assertEqual(meaning(("count", ITEM, ()), SHOP, NONE), [(0,)])
        self.assertEqual(meaning(("sum", ITEM, (), "price"), SHOP, NONE), [(0,)])
        self.assertEqual(meaning(("count", ITEM, ("name",)), SHOP, NONE), [])
        self.assertEqual(meaning(("sum", ITEM, ("name",), "price"), SHOP, NONE), [])
        self.assertEqual(meaning(("count", ("count", ITEM, ()), ()), SHOP, NONE), [(1,)])
        self.assertEqual(meaning(("sum", ("count", ITEM, ()), ("count",), "count"), SHOP, NONE), [(0, 0)])
        for question in (ITEM, ("found", "item", "name", ("none", ("word", "a"))), ("join", PRICE, TAG),
                         ("unite", TAG, TAG), ("less", ITEM, ITEM)):
            self.assertEqual(meaning(question, SHOP, NONE), [])

    def test_sums_greater_than_values(self):
        tables = {"item": [("a", 999999, ""), ("b", 999999, ""), ("c", 0, "")], "price": [], "tag": []}
        self.assertEqual(meaning(("sum", ITEM, (), "price"), SHOP, tables), [(1999998,)])
        self.assertEqual(meaning(("sum", ITEM, ("name",), "price"), SHOP, tables), [("a", 999999), ("b", 999999), ("c", 0)])

    def test_same_values_count_for_each_row(self):
        tables = {"item": [("a", 5, ""), ("a", 5, "x")], "price": [], "tag": []}
        self.assertEqual(meaning(("sum", ITEM, (), "price"), SHOP, tables), [(10,)])
        self.assertEqual(meaning(("sum", ("keep", ITEM, ("price",)), (), "price"), SHOP, tables), [(5,)])

    def test_bad_questions(self):
        for question, reason in [((), "form"), (("table", "no"), "table"), (("keep", ITEM, ()), "column"),
                                 (("unite", ITEM, TAG), "columns"), (("pick", ITEM, "price", "=", True), "value")]:
            with self.assertRaises(BadQuestion) as caught:
                meaning(question, SHOP, TABLES)
            self.assertEqual(caught.exception.reason, reason)

    def test_nothing_that_is_handed_in_is_changed(self):
        tables = copy.deepcopy(TABLES)
        for question, rows in MEANINGS:
            found = meaning(question, SHOP, tables)
            found.append(("more",))
            found.reverse()
            self.assertEqual(tables, TABLES)
            self.assertEqual(meaning(question, SHOP, tables), rows)


if __name__ == "__main__":
    unittest.main()
