import copy
import random
import unittest

from askedthen.errors import BadQuestion
from askedthen.questions import columns
from plain_questions import plain_names, some_question
from samples import ODD, SHOP, WIDE, Same, Sour

ITEM = ("table", "item")
PRICE = ("table", "price")
TAG = ("table", "tag")
NAME, MONEY, NOTE = ("name", "text"), ("price", "number"), ("note", "text")
MILL = ("word", "mill")
COUNTED = ("count", ITEM, ())
SUMMED = ("sum", ITEM, ("name",), "price")

RIGHT = [
    (ITEM, (NAME, MONEY, NOTE)), (PRICE, (MONEY,)), (TAG, (NAME,)),
    (("found", "item", "name", MILL), (NAME, MONEY, NOTE)),
    (("found", "item", "note", ("none", MILL)), (NAME, MONEY, NOTE)),
    (("found", "tag", "name", ("all", (MILL, ("begins", "x" * 40)))), (NAME,)),
    (("pick", ITEM, "name", "=", ""), (NAME, MONEY, NOTE)), (("pick", ITEM, "note", "<>", "~" * 40), (NAME, MONEY, NOTE)),
    (("pick", ITEM, "price", "<", 0), (NAME, MONEY, NOTE)), (("pick", PRICE, "price", ">", 999999), (MONEY,)),
    (("same", ITEM, "name", "note"), (NAME, MONEY, NOTE)), (("same", ITEM, "price", "price"), (NAME, MONEY, NOTE)),
    (("keep", ITEM, ("note",)), (NOTE,)), (("keep", ITEM, ("note", "price", "name")), (NOTE, MONEY, NAME)),
    (("keep", ITEM, ("price", "name")), (MONEY, NAME)),
    (("name", ITEM, "price", "cost"), (NAME, ("cost", "number"), NOTE)),
    (("name", ITEM, "name", "abcdefgh"), (("abcdefgh", "text"), MONEY, NOTE)),
    (("name", ITEM, "note", "note"), (NAME, MONEY, NOTE)), (("name", TAG, "name", "price"), (("price", "text"),)),
    (("join", ITEM, TAG), (NAME, MONEY, NOTE)), (("join", TAG, ITEM), (NAME, MONEY, NOTE)),
    (("join", PRICE, ITEM), (MONEY, NAME, NOTE)), (("join", PRICE, TAG), (MONEY, NAME)),
    (("join", ("name", ITEM, "note", "other"), ("keep", ITEM, ("note", "price", "name"))),
     (NAME, MONEY, ("other", "text"), NOTE)),
    (("unite", TAG, ("keep", ITEM, ("name",))), (NAME,)), (("less", ITEM, ITEM), (NAME, MONEY, NOTE)),
    (("unite", PRICE, ("name", COUNTED, "count", "price")), (MONEY,)),
    (COUNTED, (("count", "number"),)), (("count", ITEM, ("note", "name")), (NOTE, NAME, ("count", "number"))),
    (("count", COUNTED, ()), (("count", "number"),)),
    (("count", ITEM, ("name", "price", "note")), (NAME, MONEY, NOTE, ("count", "number"))),
    (SUMMED, (NAME, ("sum", "number"))), (("sum", ITEM, (), "price"), (("sum", "number"),)),
    (("sum", ITEM, ("price",), "price"), (MONEY, ("sum", "number"))), (("sum", COUNTED, (), "count"), (("sum", "number"),)),
    (("sum", SUMMED, (), "sum"), (("sum", "number"),)), (("count", SUMMED, ("sum",)), (("sum", "number"), ("count", "number"))),
    (("sum", ("count", TAG, ("name",)), ("count",), "count"), (("count", "number"), ("sum", "number"))),
    (("pick", ("count", TAG, ("name",)), "count", ">", 3), (NAME, ("count", "number"))),
]

# Questions that are bad for the form of the tuple itself, whatever is around them.
FORMLESS = [
    (), ("",), ("tables", "item"), ("Table", "item"), (" table", "item"), ("or", ITEM, ITEM), (None, "item"), (0, "item"),
    (["table"], "item"), (("table",), "item"), (True, "item"), (b"table", "item"), (Same(), "item"), (Sour(), "item"),
    ({}, "item"), ("table",), ("table", "item", "price"), ("table", "item", ()), ("found", "item", "name"),
    ("found", "item", "name", MILL, MILL), ("found",), ("pick", ITEM, "name", "="), ("pick", ITEM, "name", "=", "a", "b"),
    ("pick", ITEM), ("same", ITEM, "name"), ("same", ITEM, "name", "note", "note"), ("keep", ITEM),
    ("keep", ITEM, ("name",), ("note",)), ("keep", ITEM, "name", "note"), ("name", ITEM, "name"),
    ("name", ITEM, "name", "a", "b"), ("join", ITEM), ("join", ITEM, ITEM, ITEM), ("unite", ITEM), ("unite",),
    ("unite", ITEM, ITEM, ITEM), ("less", ITEM), ("less", ITEM, ITEM, ITEM), ("count", ITEM),
    ("count", ITEM, ("name",), "price"), ("sum", ITEM, ("name",)), ("sum", ITEM, ("name",), "price", "price"),
    ("sum", ITEM, "price"),
    # Another number of items is told ahead of the reasons of the parts.
    ("pick", ("table", "no"), "name", "="), ("join", ("table", "no")), ("count", ("table", "no")),
]
NO_TUPLES = ODD + [["table", "item"], ["item"], "table", "item", "", 0, 7, 10 ** 9, {"table": "item"}]
NO_TEXT_NAMES = ODD + [0, 1, (), ("name",), ("price",), b"name", "", "Name", "name ", "nam", "names", "item"]


def around(question, many, first=True):
    """A question within so many others."""
    for _ in range(many):
        question = ("less", question, question) if first is None else ("keep", question, ("name",))
    return question


class Questions(unittest.TestCase):
    def reason(self, question, schema=SHOP):
        with self.assertRaises(BadQuestion) as caught:
            columns(question, schema)
        self.assertIsInstance(caught.exception.reason, str)
        return caught.exception.reason

    def test_columns(self):
        for question, told in RIGHT:
            found = columns(question, SHOP)
            self.assertEqual(found, told, question)
            self.assertIsInstance(found, tuple)
            self.assertTrue(all(isinstance(pair, tuple) for pair in found))

    def test_columns_of_many_questions(self):
        dice = random.Random(31)
        for _ in range(300):
            question = some_question(dice, dice.randint(0, 5))
            self.assertEqual(columns(question, SHOP), tuple(plain_names(question).items()), question)

    def test_more_columns_than_a_table_has(self):
        first, second = ("table", "a"), ("table", "b")
        for name in "abcd":
            second = ("name", second, name, name * 2)
        found = columns(("join", first, second), WIDE)
        self.assertEqual([name for name, _ in found], ["a", "b", "c", "d", "eeeeeeee", "aa", "bb", "cc", "dd"])

    def test_the_schema_decides(self):
        self.assertEqual(columns(("table", "a"), (("a", (("x", "number"),)),)), (("x", "number"),))
        self.assertEqual(self.reason(ITEM, WIDE), "table")

    def test_form_of_the_tuple(self):
        for question in NO_TUPLES + FORMLESS:
            self.assertEqual(self.reason(question), "form", question if isinstance(question, tuple) else type(question))
            for outer in [("pick", question, "name", "=", "a"), ("keep", question, ("name",)), ("join", question, ITEM),
                          ("join", ITEM, question), ("less", question, ("table", "no")), ("sum", question, (), "price"),
                          ("count", question, ()), ("name", question, "a", "b"), ("same", question, "a", "b"),
                          ("unite", ITEM, question)]:
                self.assertEqual(self.reason(outer), "form")

    def test_deep(self):
        self.assertEqual(columns(around(TAG, 11), SHOP), (NAME,))
        self.assertEqual(columns(around(TAG, 0), SHOP), (NAME,))
        for many in (12, 13, 20):
            self.assertEqual(self.reason(around(TAG, many)), "deep", many)
        self.assertEqual(columns(around(TAG, 7, None), SHOP), (NAME,))
        self.assertEqual(columns(("unite", TAG, around(TAG, 10)), SHOP), (NAME,))
        self.assertEqual(self.reason(("unite", TAG, around(TAG, 11))), "deep")
        self.assertEqual(self.reason(("unite", around(TAG, 11), TAG)), "deep")

    def test_form_ahead_of_deep_ahead_of_form(self):
        for many in (12, 20):
            for question in NO_TUPLES:
                # Within 20 others one of these others is too deep, and that comes first.
                self.assertEqual(self.reason(around(question, many)), "form" if many == 12 else "deep")
            for question in FORMLESS + [("table", "no"), ("pick", TAG, "no", "no", "no"), ("keep", "a", [])]:
                self.assertEqual(self.reason(around(question, many)), "deep")
        for question in FORMLESS + NO_TUPLES:
            self.assertEqual(self.reason(around(question, 11)), "form")

    def test_deep_ahead_of_what_stands_around(self):
        self.assertEqual(self.reason(("keep", around(TAG, 11), [])), "deep")
        self.assertEqual(self.reason(("join", around(TAG, 11), ())), "deep")
        self.assertEqual(self.reason(("join", (), around(TAG, 11))), "form")
        self.assertEqual(self.reason(("join", ("table", "no"), around(TAG, 11))), "table")

    def test_parts_from_left_to_right(self):
        bad = {"table": ("table", "no"), "form": (), "column": ("keep", ITEM, ()), "kinds": ("same", ITEM, "name", "price"),
               "value": ("pick", ITEM, "name", "=", 1), "taken": ("name", ITEM, "name", "note"),
               "columns": ("unite", ITEM, TAG), "wish": ("found", "item", "name", ())}
        for one in bad:
            for other in bad:
                for word in ("join", "unite", "less"):
                    self.assertEqual(self.reason((word, bad[one], bad[other])), one)
            for word in ("join", "unite", "less"):
                self.assertEqual(self.reason((word, bad[one], ITEM)), one)
                self.assertEqual(self.reason((word, ITEM, bad[one])), one)

    def test_parts_ahead_of_own_reasons(self):
        part = ("keep", TAG, ("no",))
        for question in [("pick", part, None, None, None), ("same", part, None, None), ("keep", part, []),
                         ("keep", part, ()), ("name", part, "name", "A"), ("join", part, ITEM), ("unite", part, ITEM),
                         ("less", PRICE, part), ("count", part, []), ("sum", part, [], None)]:
            self.assertEqual(self.reason(question), "column")

    def test_table(self):
        for name in ODD + [0, (), ("item",), "", "Item", "items", "ite", "no", "name", "price ", ITEM]:
            self.assertEqual(self.reason(("table", name)), "table")
            self.assertEqual(self.reason(("found", name, "name", MILL)), "table")
            self.assertEqual(self.reason(("found", name, "no", ())), "table")

    def test_found(self):
        for name in NO_TEXT_NAMES:
            self.assertEqual(self.reason(("found", "item", name, MILL)), "column")
            self.assertEqual(self.reason(("found", "item", name, ())), "column")
        self.assertEqual(self.reason(("found", "tag", "price", MILL)), "column")
        self.assertEqual(self.reason(("found", "item", "price", MILL)), "kinds")
        self.assertEqual(self.reason(("found", "item", "price", "mill")), "kinds")
        for wish in ODD + ["mill", (), ("word",), ("word", ""), ("word", "A"), ("word", "x" * 41), ("all", (MILL,)),
                           ["word", "mill"], ("all", [MILL, MILL]), ("none", "mill"), MILL + MILL, ITEM,
                           ("none", ("none", ("none", ("none", ("none", ("none", MILL))))))]:
            self.assertEqual(self.reason(("found", "item", "name", wish)), "wish")

    def test_pick(self):
        for comparison in ODD + ["", "==", "<=", ">=", "!=", "= ", "is", ("=",), ["="], 0]:
            self.assertEqual(self.reason(("pick", ITEM, "name", comparison, "a")), "form")
            self.assertEqual(self.reason(("pick", ITEM, "no", comparison, None)), "form")
        for name in NO_TEXT_NAMES:
            self.assertEqual(self.reason(("pick", ITEM, name, "=", "a")), "column")
            self.assertEqual(self.reason(("pick", ITEM, name, "<", None)), "column")
        for comparison in ("=", "<>", "<", ">"):
            for value in ODD + [0, 7, (), ("a",), b"a", "a" * 41, "\n", "\x7f", "\u00e9"]:
                self.assertEqual(self.reason(("pick", ITEM, "name", comparison, value)), "value")
            for value in ODD + ["", "7", -1, 1000000, 7.0, (7,)]:
                self.assertEqual(self.reason(("pick", ITEM, "price", comparison, value)), "value")

    def test_same(self):
        for name in NO_TEXT_NAMES:
            self.assertEqual(self.reason(("same", ITEM, name, "name")), "column")
            self.assertEqual(self.reason(("same", ITEM, "price", name)), "column")
            self.assertEqual(self.reason(("same", ITEM, name, name)), "column")
        self.assertEqual(self.reason(("same", ITEM, "name", "price")), "kinds")
        self.assertEqual(self.reason(("same", ITEM, "price", "note")), "kinds")

    def test_names(self):
        for word, rest in [("keep", ()), ("count", ()), ("sum", ("price",)), ("sum", ("no",)), ("sum", ("name",))]:
            for names in ODD + ["name", "", ["name"], {"name": 1}, 0]:
                self.assertEqual(self.reason((word, ITEM, names) + rest), "form")
            for name in NO_TEXT_NAMES:
                self.assertEqual(self.reason((word, ITEM, (name,)) + rest), "column")
                self.assertEqual(self.reason((word, ITEM, ("name", name)) + rest), "column")
                self.assertEqual(self.reason((word, ITEM, (name, name)) + rest), "column")
            for names in [("name", "name"), ("name", "price", "name"), ("note", "price", "price")]:
                self.assertEqual(self.reason((word, ITEM, names) + rest), "column")
        self.assertEqual(self.reason(("keep", ITEM, ())), "column")

    def test_name(self):
        for new in ODD + ["", "A", "a1", "abcdefghi", "a b", ("a",), 0]:
            self.assertEqual(self.reason(("name", ITEM, "name", new)), "form")
            self.assertEqual(self.reason(("name", ITEM, "no", new)), "form")
        for old in NO_TEXT_NAMES:
            self.assertEqual(self.reason(("name", ITEM, old, "new")), "column")
            self.assertEqual(self.reason(("name", ITEM, old, "note")), "column")
        for old, new in [("name", "price"), ("price", "name"), ("note", "name"), ("name", "note")]:
            self.assertEqual(self.reason(("name", ITEM, old, new)), "taken")

    def test_join(self):
        unlike = ("name", TAG, "name", "price")
        self.assertEqual(self.reason(("join", ITEM, unlike)), "kinds")
        self.assertEqual(self.reason(("join", unlike, ITEM)), "kinds")
        self.assertEqual(self.reason(("join", unlike, PRICE)), "kinds")
        last = ("name", ("name", TAG, "name", "x"), "x", "count")
        self.assertEqual(self.reason(("join", ("count", ITEM, ("name",)), ("join", TAG, last))), "kinds")

    def test_unite_and_less(self):
        swapped = ("keep", ITEM, ("price", "name", "note"))
        for word in ("unite", "less"):
            for first, second in [(ITEM, TAG), (TAG, ITEM), (ITEM, swapped), (swapped, ITEM), (TAG, PRICE),
                                  (TAG, ("name", TAG, "name", "names")), (PRICE, ("name", TAG, "name", "price")),
                                  (ITEM, ("keep", ITEM, ("name", "price"))), (COUNTED, SUMMED)]:
                self.assertEqual(self.reason((word, first, second)), "columns")

    def test_count_and_sum(self):
        counted = ("count", ITEM, ("name", "price"))
        self.assertEqual(self.reason(("count", counted, ("count",))), "taken")
        self.assertEqual(self.reason(("count", counted, ("name", "count"))), "taken")
        self.assertEqual(self.reason(("count", counted, ("count", "count"))), "column")
        for names in [(), ("name",), ("price", "note")]:
            for name in NO_TEXT_NAMES:
                self.assertEqual(self.reason(("sum", ITEM, names, name)), "column")
            self.assertEqual(self.reason(("sum", ITEM, names, "name")), "kinds")
        self.assertEqual(self.reason(("sum", SUMMED, ("sum",), "sum")), "taken")
        self.assertEqual(self.reason(("sum", SUMMED, ("name", "sum"), "sum")), "taken")
        self.assertEqual(self.reason(("sum", SUMMED, ("sum",), "name")), "kinds")
        self.assertEqual(self.reason(("sum", SUMMED, ("sum",), "no")), "column")
        self.assertEqual(self.reason(("sum", SUMMED, ("no",), "no")), "column")

    def test_nothing_that_is_handed_in_is_changed(self):
        for question in [["table", "item"], ("keep", ITEM, ["name"]), ("found", "item", "name", ["word", "mill"])]:
            before = copy.deepcopy(question)
            self.reason(question)
            self.assertEqual(question, before)


if __name__ == "__main__":
    unittest.main()
