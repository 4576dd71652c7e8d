import itertools
import unittest

from askedthen.deeds import check_deed
from askedthen.errors import AskError, InvalidArgument
from samples import ODD, SHOP, Same, Sour

ROW = ("Mill", 3, "old")
RIGHT = [
    ("keep", "item", ROW, 0, 1), ("drop", "item", ROW, 9999, 10000), ("clear", "item", 0, 10000),
    ("keep", "price", (0,), 3, 5), ("drop", "tag", ("",), 0, 10000), ("clear", "tag", 4, 5),
    ("keep", "price", (999999,), 0, 10000), ("keep", "tag", ("~" * 40,), 1, 2),
]

BAD_TABLES = ["items", "", "ITEM", "name", 0, None, True, ("item",), ["item"], Same(), Sour()]
BAD_ROWS = [
    (), ("Mill", 3), ROW + ("x",), list(ROW), (3, "Mill", "old"), ("Mill", True, "old"),
    ("Mill", -1, "old"), ("Mill", 1000000, "old"), ("Mill", 3, "a" * 41), ("Mill", 3, None),
    ("Mill", 3, ["old"]), "Mill", None, 0, True, (0,), Same(), Sour(),
]
BAD_DAYS = [
    (0, 0), (5, 4), (-1, 5), (0, 10001), (10000, 10000), (10000, 10001), (False, 5), (0, True),
    (None, 5), (0, None), (0.0, 5), (0, 5.0), ("0", "5"), ([0], [5]), ((0, 5), ()), (Same(), 5),
    (0, Same()), (Sour(), 5), (0, Sour()),
]
BAD_DEEDS = [
    (), ("keep",), ("keep", "item", ROW), ("keep", "item", ROW, 0), ("keep", "item", ROW, 0, 5, 6),
    ("drop", "item", ROW, 0), ("drop", "item", ROW, 0, 5, 6), ("clear", "item", 0),
    ("clear", "item", ROW, 0, 5), ("clear",), ("keep", "item", 0, 5), ("drop", "item", 0, 5),
    ["keep", "item", ROW, 0, 5], ["clear", "item", 0, 5], ("Keep", "item", ROW, 0, 5),
    ("take", "item", ROW, 0, 5), ("", "item", ROW, 0, 5), ("clears", "item", 0, 5),
    (None, "item", ROW, 0, 5), (True, "item", ROW, 0, 5), (0, "item", ROW, 0, 5),
    (["keep"], "item", ROW, 0, 5), (("keep",), "item", ROW, 0, 5), (Same(), "item", ROW, 0, 5),
    (Sour(), "item", ROW, 0, 5), (Same(), "item", 0, 5), "keep", "clear", "", 0, 5, -1, "abcde",
]


class CheckDeed(unittest.TestCase):
    def refused(self, deed, name):
        with self.assertRaises(AskError) as caught:
            check_deed(SHOP, deed)
        self.assertIs(type(caught.exception), InvalidArgument)
        self.assertEqual(caught.exception.name, name)

    def test_deeds(self):
        for deed in RIGHT:
            self.assertIsNone(check_deed(SHOP, deed), deed)

    def test_no_deeds(self):
        for deed in BAD_DEEDS + ODD:
            self.refused(deed, "deed")

    def test_tables(self):
        for table in BAD_TABLES:
            self.refused(("keep", table, ROW, 0, 5), "table")
            self.refused(("drop", table, ROW, 0, 5), "table")
            self.refused(("clear", table, 0, 5), "table")

    def test_rows(self):
        for row in BAD_ROWS:
            self.refused(("keep", "item", row, 0, 5), "row")
            self.refused(("drop", "item", row, 0, 5), "row")
        self.refused(("keep", "price", ROW, 0, 5), "row")
        self.refused(("keep", "price", ("3",), 0, 5), "row")
        self.refused(("drop", "tag", (3,), 0, 5), "row")

    def test_days(self):
        for start, stop in BAD_DAYS:
            self.refused(("keep", "item", ROW, start, stop), "days")
            self.refused(("drop", "item", ROW, start, stop), "days")
            self.refused(("clear", "item", start, stop), "days")

    def test_the_first_error_is_raised(self):
        for table, row, days in itertools.product(BAD_TABLES, BAD_ROWS, BAD_DAYS[:5]):
            for word in ("keep", "drop"):
                self.refused((word, table, row) + days, "table")
                self.refused((word, "item", row) + days, "row")
                self.refused((word, table, row) + days + (1,), "deed")
                self.refused((word + "s", table, row) + days, "deed")
        for table, days in itertools.product(BAD_TABLES, BAD_DAYS):
            self.refused(("clear", table) + days, "table")
            self.refused(("clear", table, ROW) + days, "deed")
            self.refused(("keep", table) + days, "deed")
            self.refused(("keep", table, ROW) + days, "table")


if __name__ == "__main__":
    unittest.main()
