import random
import re
import unittest

from askedthen.errors import Unknown
from askedthen.hashing import Hasher
from askedthen.knowing import row_entries
from askedthen.octets import range_of, range_of_text
from askedthen.pruning import prune
from askedthen.trees import TreeSource, tree_of
from askedthen.values import in_order
from askedthen.wishes import found, fulfils, is_wish, wish_ranges
from samples import ODD, SHOP, Same, Sour

HASHER = Hasher(2 ** 31 - 1, 1000003)
DAYS = 12
WORDS = ["a", "ab", "abc", "b", "ba", "7", "old", "mill"]
A, B = ("word", "a"), ("begins", "b")

RIGHT = [
    A, B, ("word", "z"), ("word", "0"), ("word", "9z"), ("word", "x" * 40), ("begins", "x" * 40), ("none", A),
    ("all", (A, B)), ("any", (A, B)), ("all", (A,) * 6), ("any", (A,) * 6), ("all", (A, A)),
    ("none", ("none", ("none", ("none", ("none", A))))), ("any", (("all", (A, ("none", B))), A, B)),
    ("all", (A, ("any", (A, ("all", (A, ("any", (A, ("none", A)))))))))
]
BAD_WORDS = ["", "x" * 41, "A", "aB", "a b", " a", "a*", "-", "a\n", "\u00e9", "\u0663", b"a", ("a",), ["a"], 7, A]
WRONG = [
    (), ("word",), ("word", "a", "b"), ("words", "a"), ("Word", "a"), ("", "a"), ["word", "a"], "ab", "word", "",
    0, 7, -1, ("all",), ("all", A), ("all", ()), ("all", (A,)), ("all", (A,) * 7), ("any", (A,)), ("any", (A,) * 7),
    ("all", [A, B]), ("any", [A, B]), ("all", A, B), ("none", A, B), ("none",), ("none", (A,)), ("none", "a"),
    ("none", ()), ("all", "ab"), ("any", {A: 1, B: 2}), ("any", (A, "b")), ("all", (A, ("word", ""))),
    ("all", (A, ["word", "b"])), ("none", ["word", "a"]), ("word", ("word", "a")), (("word", "a"), "a"),
    ("none", ("none", ("none", ("none", ("none", ("none", A)))))),
    ("all", (A, ("any", (A, ("all", (A, ("any", (A, ("none", ("none", A)))))))))),
    ("not", A), ("or", (A, B)), ("and", (A, B)), ("begin", "a"), (0, "a"), (None, "a"), (True, "a"),
]


def plainly_fulfils(text, wish):
    words = [run.lower() for run in re.findall("[A-Za-z0-9]+", text)]
    return {
        "word": lambda what: what in words,
        "begins": lambda what: any(word[:len(what)] == what for word in words),
        "all": lambda what: all(plainly_fulfils(text, part) for part in what),
        "any": lambda what: any(plainly_fulfils(text, part) for part in what),
        "none": lambda what: not plainly_fulfils(text, what),
    }[wish[0]](wish[1])


def some_wish(dice, deep):
    kind = dice.choice(["word", "begins", "all", "any", "none"]) if deep > 1 else dice.choice(["word", "begins"])
    if kind in ("word", "begins"):
        return (kind, dice.choice(WORDS))
    if kind == "none":
        return (kind, some_wish(dice, deep - 1))
    return (kind, tuple(some_wish(dice, deep - 1) for _ in range(dice.randint(2, 3))))


def some_days(dice):
    """Spans among the first days that are not empty."""
    points = sorted(dice.sample(range(DAYS + 1), dice.choice([2, 2, 4])))
    return tuple(zip(points[::2], points[1::2]))


def plain_ranges(wish, table, column):
    word, what = wish
    if word == "word":
        return [range_of(("w", table, column, what))]
    if word == "begins":
        return [range_of_text(("w", table, column), what)]
    found_ranges = [range_of(("t", table))] if word == "none" else []
    for part in [what] if word == "none" else what:
        found_ranges += plain_ranges(part, table, column)
    return found_ranges


def plain_rows(wish, table, column, keys):
    """The set of the rows that are found by these keys, those of the entries that hold on a day."""
    word, what = wish
    if word == "word":
        return {key[4:] for key in keys if key[:4] == ("w", table, column, what)}
    if word == "begins":
        return {key[4:] for key in keys if key[:3] == ("w", table, column) and len(key) > 3
                and isinstance(key[3], str) and key[3].startswith(what)}
    if word == "none":
        every = {key[2:] for key in keys if key[:2] == ("t", table)}
        return every - plain_rows(what, table, column, keys)
    parts = [plain_rows(part, table, column, keys) for part in what]
    return set.intersection(*parts) if word == "all" else set.union(*parts)


def plainly_found(wish, table, column, held):
    """What a search finds in a dict of entries, day by day."""
    days = {}
    for day in range(DAYS + 1):
        keys = [key for key, spans in held.items() if any(start <= day < stop for start, stop in spans)]
        for row in plain_rows(wish, table, column, keys):
            days.setdefault(row, []).append(day)
    told = []
    for row in in_order(list(days)):
        starts = [day for day in days[row] if day - 1 not in days[row]]
        stops = [day + 1 for day in days[row] if day + 1 not in days[row]]
        told.append((row, tuple(zip(starts, stops))))
    return told


def shop_rows(dice):
    """Rows of the shop, with their days."""
    texts = ["", "a", "A b", "ab abc", "abc-B", "Old mill", "old", "7 a", "ba ab a", "mill a", "b b", "..."]
    rows = {}
    for _ in range(dice.randint(1, 12)):
        rows["item", (dice.choice(texts), dice.choice([0, 2, 10]), dice.choice(texts))] = some_days(dice)
        rows["tag", (dice.choice(texts),)] = some_days(dice)
        rows["price", (dice.choice([0, 2, 10]),)] = some_days(dice)
    return rows


def shop_entries(rows):
    return {key: spans for (table, row), days in rows.items() for key, spans in row_entries(SHOP, table, row, days)}


class ListSource:
    """A source that keeps what it is asked."""

    def __init__(self, source):
        self.source = source
        self.asked = []

    def entries(self, first, last):
        self.asked.append((first, last))
        return self.source.entries(first, last)


class IsWish(unittest.TestCase):
    def test_wishes(self):
        for wish in RIGHT:
            self.assertIs(is_wish(wish), True, wish)

    def test_no_wishes(self):
        for value in WRONG + ODD + [Same(), Sour()]:
            self.assertIs(is_wish(value), False, repr(type(value)))

    def test_words(self):
        for word in BAD_WORDS + ODD:
            for kind in ("word", "begins"):
                self.assertIs(is_wish((kind, word)), False)
                self.assertIs(is_wish(("none", (kind, word))), False)
                self.assertIs(is_wish(("all", (A, (kind, word)))), False)
                self.assertIs(is_wish(("any", ((kind, word), A))), False)

    def test_other_things_as_parts(self):
        for thing in WRONG + ODD:
            self.assertIs(is_wish(("none", thing)), False)
            self.assertIs(is_wish(("all", thing)), False)
            self.assertIs(is_wish(("any", (A, thing))), False)
            self.assertIs(is_wish(("any", (thing, A))), False)
            if not isinstance(thing, str):
                self.assertIs(is_wish((thing, "a")), False)
                self.assertIs(is_wish((thing, A)), False)

    def test_counts_of_parts(self):
        for count in range(10):
            for kind in ("all", "any"):
                self.assertIs(is_wish((kind, (A,) * count)), 2 <= count <= 6)
                self.assertIs(is_wish(("none", (kind, (B,) * count))), 2 <= count <= 6)

    def test_depths(self):
        for wrap in (lambda wish: ("none", wish), lambda wish: ("all", (wish, A)), lambda wish: ("any", (A, wish))):
            wish = A
            for deep in range(1, 10):
                self.assertIs(is_wish(wish), deep <= 6, deep)
                wish = wrap(wish)

    def test_what_is_very_deep_or_holds_itself(self):
        wish = A
        for _ in range(100000):
            wish = ("none", wish)
        self.assertIs(is_wish(wish), False)
        loop = ["all"]
        loop.append((loop, A))
        self.assertIs(is_wish(loop), False)
        self.assertIs(is_wish(("none", loop)), False)


class Fulfils(unittest.TestCase):
    def test_given_texts(self):
        for text, wish, expected in (
            ("Old mill", ("word", "mill"), True), ("Old mill", ("word", "mil"), False),
            ("Old mill", ("begins", "mil"), True), ("Old mill", ("begins", "ill"), False),
            ("OLD-Mill", ("all", (("word", "old"), ("word", "mill"))), True),
            ("Old", ("all", (("word", "old"), ("word", "mill"))), False),
            ("Old", ("any", (("word", "mill"), ("word", "old"))), True),
            ("new", ("any", (("word", "mill"), ("word", "old"))), False),
            ("", ("none", ("word", "a")), True), ("a", ("none", ("word", "a")), False),
            ("", ("begins", "a"), False), ("x" * 40, ("word", "x" * 40), True), ("x" * 40, ("begins", "x" * 40), True),
            ("x" * 39, ("begins", "x" * 40), False), ("a", ("none", ("none", ("word", "a"))), True),
        ):
            self.assertIs(fulfils(text, wish), expected, (text, wish))

    def test_against_a_plain_reading(self):
        seen = {True: 0, False: 0}
        for seed in range(3000):
            dice = random.Random(seed)
            wish = some_wish(dice, dice.randint(1, 6))
            text = "".join(dice.choice(["a", "b", "A", "c", "7", " ", "-", "old", "Mill"])
                           for _ in range(dice.randint(0, 10)))
            seen[plainly_fulfils(text, wish)] += 1
            self.assertTrue(is_wish(wish))
            self.assertIs(fulfils(text, wish), plainly_fulfils(text, wish), (text, wish))
        self.assertGreater(min(seen.values()), 500)

    def test_somewhat_beyond_the_limits(self):
        wish = A
        for _ in range(9):
            wish = ("none", ("none", wish))
        self.assertIs(fulfils("a", wish), True)
        self.assertIs(fulfils("a", ("any", (B,) * 9 + (A,))), True)
        self.assertIs(fulfils("a", ("all", (A,))), True)


class Ranges(unittest.TestCase):
    def test_given_wishes(self):
        word = range_of(("w", "item", "name", "mill"))
        begins = range_of_text(("w", "item", "name"), "te")
        table = range_of(("t", "item"))
        one, other = ("word", "mill"), ("begins", "te")
        for wish, expected in (
            (one, [word]), (other, [begins]), (("none", one), [table, word]), (("all", (one, other)), [word, begins]),
            (("any", (other, one)), [begins, word]), (("all", (one, one)), [word, word]),
            (("any", (("none", other), one, ("none", ("none", one)))), [table, begins, word, table, table, word]),
        ):
            self.assertEqual(wish_ranges(wish, "item", "name"), expected, wish)
            self.assertIs(type(wish_ranges(wish, "item", "name")), list)

    def test_against_a_plain_reckoning(self):
        for seed in range(300):
            wish = some_wish(random.Random(seed), 5)
            self.assertEqual(wish_ranges(wish, "tag", "name"), plain_ranges(wish, "tag", "name"))

    def test_what_is_returned_is_the_callers(self):
        for wish in RIGHT:
            first = wish_ranges(wish, "tag", "name")
            wish_ranges(wish, "tag", "name").clear()
            self.assertEqual(wish_ranges(wish, "tag", "name"), first)


class Found(unittest.TestCase):
    def test_given_rows(self):
        rows = {("tag", ("Old mill",)): ((0, 5),), ("tag", ("new mill",)): ((3, 9),), ("tag", ("tea",)): ((1, 2),)}
        source = TreeSource(tree_of(HASHER, list(shop_entries(rows).items())))
        for wish, expected in (
            (("word", "mill"), [(("Old mill",), ((0, 5),)), (("new mill",), ((3, 9),))]),
            (("begins", "te"), [(("tea",), ((1, 2),))]),
            (("none", ("begins", "mi")), [(("tea",), ((1, 2),))]),
            (("any", (("word", "new"), ("word", "tea"))), [(("new mill",), ((3, 9),)), (("tea",), ((1, 2),))]),
            (("all", (("word", "old"), ("word", "mill"))), [(("Old mill",), ((0, 5),))]),
            (("word", "mil"), []),
        ):
            self.assertEqual(found(wish, "tag", "name", source), expected, wish)

    def test_rows_are_found_as_their_texts_fulfil_the_wish(self):
        for seed in range(300):
            dice = random.Random(seed)
            rows = shop_rows(dice)
            source = TreeSource(tree_of(HASHER, list(shop_entries(rows).items())))
            wish = some_wish(dice, dice.randint(1, 5))
            for table, column, place in (("item", "name", 0), ("item", "note", 2), ("tag", "name", 0)):
                told = {row: days for (name, row), days in rows.items()
                        if name == table and plainly_fulfils(row[place], wish)}
                self.assertEqual(found(wish, table, column, source), [(row, told[row]) for row in in_order(list(told))])

    def test_entries_whose_days_do_not_belong_together(self):
        for seed in range(300):
            dice = random.Random(seed)
            held = {key: some_days(dice) for key in shop_entries(shop_rows(dice)) if dice.random() < 0.8}
            for key in (("t", "tag"), ("w", "tag", "name", "a"), ("w", "tag", "name", "a!"), ("w", "tag", "name", 7),
                        ("w", "tag", "name"), ("t", "tag", 3, "x"), ("w", "tag", "name", "ab", 3, "x"), ("t",),
                        ("w", "tag", "other", "a", "row"), ("t", "taga", "row"), ("w", "taga", "name", "a", "row")):
                if dice.random() < 0.5:
                    held[key] = some_days(dice)
            source = TreeSource(tree_of(HASHER, list(held.items())))
            wish = some_wish(dice, dice.randint(1, 5))
            for table, column in (("item", "name"), ("item", "note"), ("tag", "name")):
                told = found(wish, table, column, source)
                self.assertIs(type(told), list)
                self.assertEqual(told, plainly_found(wish, table, column, held), (seed, wish))

    def test_the_tree_pruned_for_the_ranges(self):
        for seed in range(200):
            dice = random.Random(seed)
            rows = shop_rows(dice)
            tree = tree_of(HASHER, list(shop_entries(rows).items()))
            wish = some_wish(dice, dice.randint(1, 4))
            pruned = prune(tree, wish_ranges(wish, "item", "name"))
            self.assertEqual(found(wish, "item", "name", TreeSource(pruned)),
                             found(wish, "item", "name", TreeSource(tree)))

    def test_just_the_ranges_are_asked(self):
        for seed in range(200):
            dice = random.Random(seed)
            tree = tree_of(HASHER, list(shop_entries(shop_rows(dice)).items()))
            wish = some_wish(dice, dice.randint(1, 5))
            for part in (tree, None):
                source = ListSource(TreeSource(part))
                found(wish, "item", "name", source)
                self.assertEqual(source.asked, wish_ranges(wish, "item", "name"))

    def test_what_the_source_raises_is_raised(self):
        tree = tree_of(HASHER, list(shop_entries({("tag", ("a b",)): ((0, 5),)}).items()))
        source = TreeSource(prune(tree, wish_ranges(("word", "c"), "tag", "name")))
        self.assertEqual(found(("word", "c"), "tag", "name", source), [])
        for wish in (("word", "a"), ("all", (("word", "c"), ("word", "a"))), ("none", ("word", "c")),
                     ("any", (("word", "c"), ("none", ("word", "c"))))):
            with self.assertRaises(Unknown):
                found(wish, "tag", "name", source)

        class Broken:
            def entries(self, first, last):
                raise KeyError("broken")

        with self.assertRaises(KeyError):
            found(A, "tag", "name", Broken())

    def test_the_lists_of_the_source_stay(self):
        class Kept:
            told = [(("w", "tag", "name", "a", "row"), ((0, 5),)), (("w", "tag", "name", "ab", "row"), ((5, 7),))]

            def entries(self, first, last):
                return self.told

        given = list(Kept.told)
        self.assertEqual(found(("begins", "a"), "tag", "name", Kept()), [(("row",), ((0, 7),))])
        found(("begins", "a"), "tag", "name", Kept()).clear()
        self.assertEqual(Kept.told, given)

    def test_the_order_of_rows(self):
        rows = {("tag", (text,)): ((0, 1),) for text in ("b", "a", "10", "2", "B", "~ a", "a b", "")}
        source = TreeSource(tree_of(HASHER, list(shop_entries(rows).items())))
        told = found(("none", ("word", "zzz")), "tag", "name", source)
        self.assertEqual([row for row, _ in told], in_order([row for _, row in rows]))
        rows = {("item", (text, number, "a")): ((0, 1),) for text in "ba" for number in (10, 2, 999999)}
        source = TreeSource(tree_of(HASHER, list(shop_entries(rows).items())))
        told = found(("begins", "a"), "item", "note", source)
        self.assertEqual([row for row, _ in told], in_order([row for _, row in rows]))


if __name__ == "__main__":
    unittest.main()
