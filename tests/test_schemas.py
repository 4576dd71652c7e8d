import copy
import itertools
import unittest

from askedthen.errors import AskError, InvalidArgument
from askedthen.schemas import are_unlike, check_schema, columns_of, is_name, is_row, place_of
from samples import ODD, SHOP, SMALL, WIDE


def table(*columns):
    return (("t", tuple(columns)),)


def columns_like(names):
    return tuple((name, "number") for name in names)


BAD_NAMES = ["", "aaaaaaaaa", "A", "aB", "a1", "1", "a b", " ", "a_", "_", "\u00e9", "a\n", "`", "{", "a-"]

WRONG = [
    (), table(), [], list(SHOP), None, "", "shop", 0, ("t",), ("t", columns_like("a")),
    # One count too many.
    tuple((name, columns_like("a")) for name in "abcde"),
    table(*columns_like("abcdef")),
    # The same name twice.
    (("a", columns_like("a")), ("b", columns_like("a")), ("a", columns_like("b"))),
    table(("a", "number"), ("b", "text"), ("a", "text")),
    # Lists in place of tuples.
    (list(SMALL[0]),), (("t", [("a", "number")]),), (("t", (["a", "number"],)),), ["t", columns_like("a")],
    # Parts too few and too many.
    (("t",),), (("t", columns_like("a"), 1),), ((),), table(("a",)), table(("a", "number", 1)), table(()),
    # Unknown kinds.
    table(("a", "Number")), table(("a", "")), table(("a", "num")), table(("a", "texts")), table(("a", ("text",))),
    # Later parts are looked at as well.
    SHOP[:2] + (("tag", ()),), SHOP[:2] + (("tag", (("name", "texts"),)),), SHOP[:2] + (("Tag", SHOP[2][1]),),
    SHOP[:2] + (None,),
    # Texts that look like pairs.
    ("ab", "cd"), table("ab"), (("t", "ab"),), (("t", ("ab",)),),
] + [((name, columns_like("a")),) for name in BAD_NAMES] + [table((name, "text")) for name in BAD_NAMES]


class Names(unittest.TestCase):
    def test_names(self):
        for name in ("a", "z", "abcdefgh", "zzzzzzzz", "count", "sum"):
            self.assertIs(is_name(name), True, name)
        for code in range(300):
            self.assertIs(is_name(chr(code)), 97 <= code <= 122, code)
            self.assertIs(is_name("ab" + chr(code)), 97 <= code <= 122, code)

    def test_no_names(self):
        for name in BAD_NAMES:
            self.assertIs(is_name(name), False, name)
        for value in ODD + [0, 1, (), ("a",)]:
            self.assertIs(is_name(value), False, repr(type(value)))

    def test_are_unlike(self):
        for names in ([], ["a"], ["a", "b", "c"], (), ("ab", "ba"), ("a", "aa"), (1, "1"), ("", " ")):
            self.assertIs(are_unlike(names), True, names)
        for names in (["a", "a"], ("a", "b", "a"), ("b", "a", "a"), ["x", "y", "z", "y"], [1, 1]):
            self.assertIs(are_unlike(names), False, names)

    def test_are_unlike_of_items_of_any_kind(self):
        self.assertIs(are_unlike([["a"], ["b"]]), True)
        self.assertIs(are_unlike([["a"], ["b"], ["a"]]), False)
        names = ["b", "a"]
        are_unlike(names)
        self.assertEqual(names, ["b", "a"])


class Schemas(unittest.TestCase):
    def test_schemas(self):
        for schema in (SHOP, SMALL, WIDE, SHOP[:1], WIDE[:3],
                       (("count", (("count", "number"), ("sum", "text"))),),
                       (("a", columns_like("ab")), ("b", columns_like("ab")))):
            self.assertIsNone(check_schema(schema))

    def test_no_schemas(self):
        for schema in WRONG + ODD:
            with self.assertRaises(AskError) as caught:
                check_schema(schema)
            self.assertIs(type(caught.exception), InvalidArgument)
            self.assertEqual(caught.exception.name, "schema")

    def test_other_things_in_each_place(self):
        for value in ODD + [1, (), ("a",)]:
            for schema in ((value,), SHOP + (value,), ((value, columns_like("a")),), (("t", value),),
                           table(value), table(("a", "text"), value), table((value, "text")),
                           table(("a", value)), table(("b", "text"), ("a", value))):
                with self.assertRaises(InvalidArgument) as caught:
                    check_schema(schema)
                self.assertEqual(caught.exception.name, "schema")

    def test_what_is_handed_in_stays(self):
        for schema in WRONG:
            before = copy.deepcopy(schema)
            with self.assertRaises(InvalidArgument):
                check_schema(schema)
            self.assertEqual(schema, before)


class Columns(unittest.TestCase):
    def test_columns_of(self):
        for schema in (SHOP, WIDE, SMALL):
            for name, columns in schema:
                self.assertEqual(columns_of(schema, name), columns)
        self.assertEqual(columns_of(SHOP, "item"), SHOP[0][1])
        self.assertEqual(columns_of(SHOP, "tag"), (("name", "text"),))
        for name in ("name", "items", "ite", "", "Item", 0, None, ("tag",), ["tag"]):
            self.assertIsNone(columns_of(SHOP, name))

    def test_place_of(self):
        columns = SHOP[0][1]
        self.assertEqual([place_of(columns, name) for name in ("name", "price", "note")], [0, 1, 2])
        for name in ("item", "notes", "", "Name", 0, None, ("note",), ["note"]):
            self.assertIsNone(place_of(columns, name))
        self.assertIsNone(place_of((), "name"))


class Rows(unittest.TestCase):
    def test_rows(self):
        columns = SHOP[0][1]
        for row in (("a", 0, ""), ("", 999999, "~" * 40), ("Mill 7", 12, "old | new")):
            self.assertIs(is_row(columns, row), True, row)
        self.assertIs(is_row(SMALL[0][1], (0,)), True)
        self.assertIs(is_row(WIDE[0][1], ("",) * 5), True)

    def test_no_rows(self):
        columns = SHOP[0][1]
        wrong = [
            (), ("a",), ("a", 0), ("a", 0, "", ""), ("a", 0, "", 0), ["a", 0, ""], ("a", "0", ""),
            (0, 0, ""), ("a", 0, 0), ("a", -1, ""), ("a", 1000000, ""), ("a", True, ""),
            ("a", 1.0, ""), ("a" * 41, 0, ""), ("a", 0, "\n"), ("a", 0, None), (("a",), 0, ""),
            ("a", 0, ["b"]), "abc", "", 0, -1,
        ]
        for row in wrong + ODD:
            self.assertIs(is_row(columns, row), False, repr(type(row)))

    def test_other_things_in_each_place(self):
        columns = SHOP[0][1]
        for value, place in itertools.product(ODD, range(3)):
            row = ["a", 0, "b"]
            row[place] = value
            self.assertIs(is_row(columns, tuple(row)), False, repr(type(value)))


if __name__ == "__main__":
    unittest.main()
