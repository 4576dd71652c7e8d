import copy
import random
import unittest

from askedthen.answering import answer, needs, rows_on
from askedthen.daily import meaning
from askedthen.errors import BadQuestion, Unknown
from askedthen.hashing import Hasher
from askedthen.knowing import Knowledge
from askedthen.octets import key_octets, range_of, range_of_text
from askedthen.pruning import prune
from askedthen.spans import ALWAYS, holds, points_of
from askedthen.trees import TreeSource, root, tree_of
from askedthen.values import in_order
from plain_questions import NUMBERS, TEXTS, plain_meaning, plain_needs, some_question
from samples import SHOP

HASHER = Hasher(2 ** 31 - 1, 1000003)
ITEM, PRICE, TAG = ("table", "item"), ("table", "price"), ("table", "tag")
ITEMS, PRICES, TAGS = [range_of(("t", name)) for name in ("item", "price", "tag")]
BAD = [((), "form"), (("table", "no"), "table"), (("keep", ITEM, ()), "column"), (("unite", ITEM, TAG), "columns"),
       (("pick", ITEM, "price", "=", True), "value"), (("name", ITEM, "name", "note"), "taken"),
       (("join", ITEM, ("name", TAG, "name", "price")), "kinds"), (("found", "item", "name", ()), "wish")]


class PlainSource:
    """Tells the entries of a list, and remembers what it was asked."""

    def __init__(self, entries):
        self.told = entries
        self.asked = []

    def entries(self, first, last):
        self.asked.append((first, last))
        return [(key, spans) for key, spans in self.told if first <= key_octets(key) < last]


class NoSource:
    """Knows nothing of one range."""

    def __init__(self, source, unknown):
        self.source = source
        self.unknown = unknown

    def entries(self, first, last):
        if (first, last) == self.unknown:
            raise Unknown("not told")
        return self.source.entries(first, last)


def some_knowledge(dice, many=12):
    """What is known behind some deeds; many days are the first or the last ones."""
    known = Knowledge(SHOP)
    for _ in range(dice.randint(0, many)):
        row = {"item": (dice.choice(TEXTS), dice.choice(NUMBERS), dice.choice(TEXTS)), "price": (dice.choice(NUMBERS),),
               "tag": (dice.choice(TEXTS),)}
        table = dice.choice(["item", "item", "price", "tag"])
        start, stop = sorted(dice.sample([0, 1, 2, 5, 9, 10, 20, 9998, 9999, 10000], 2))
        known.apply(("drop" if dice.random() < 0.15 else "keep", table, row[table], start, stop))
    return known


def tables_on(known, day):
    return {name: [row for row, spans in known.rows(name) if holds(spans, day)] for name in ("tag", "price", "item")}


def days_to_try(known):
    points = points_of([spans for name in ("item", "price", "tag") for _, spans in known.rows(name)])
    return sorted({day for point in points + [0, 10000] for day in (point - 1, point) if 0 <= day <= 9999})


def shop():
    known = Knowledge(SHOP)
    known.apply(("keep", "item", ("Old mill", 300, "old"), 0, 50))
    known.apply(("keep", "item", ("Tea", 20, "Tea"), 10, 20))
    known.apply(("keep", "item", ("Tea", 5, "old tea"), 20, 10000))
    known.apply(("keep", "tag", ("Tea",), 15, 25))
    known.apply(("keep", "price", (300,), 40, 60))
    return known


class Answers(unittest.TestCase):
    def asked(self, question):
        return answer(question, SHOP, PlainSource(shop().entries()))

    def test_answers(self):
        old, tea, other = ("Old mill", 300, "old"), ("Tea", 20, "Tea"), ("Tea", 5, "old tea")
        for question, rows in [
            (ITEM, [(old, ((0, 50),)), (other, ((20, 10000),)), (tea, ((10, 20),))]),
            (("found", "item", "note", ("word", "old")), [(old, ((0, 50),)), (other, ((20, 10000),))]),
            (("pick", ITEM, "price", "<", 300), [(other, ((20, 10000),)), (tea, ((10, 20),))]),
            (("pick", ITEM, "name", "=", "Tea"), [(other, ((20, 10000),)), (tea, ((10, 20),))]),
            (("same", ITEM, "name", "note"), [(tea, ((10, 20),))]),
            (("keep", ITEM, ("name",)), [(("Old mill",), ((0, 50),)), (("Tea",), ((10, 10000),))]),
            (("name", TAG, "name", "other"), [(("Tea",), ((15, 25),))]),
            (("join", ITEM, TAG), [(other, ((20, 25),)), (tea, ((15, 20),))]),
            (("join", PRICE, ITEM), [((300, "Old mill", "old"), ((40, 50),))]),
            (("unite", TAG, ("keep", ITEM, ("name",))), [(("Old mill",), ((0, 50),)), (("Tea",), ((10, 10000),))]),
            (("less", ("keep", ITEM, ("name",)), TAG), [(("Old mill",), ((0, 50),)), (("Tea",), ((10, 15), (25, 10000)))]),
            (("less", TAG, TAG), []),
            (("count", ITEM, ()), [((1,), ((0, 10), (50, 10000))), ((2,), ((10, 50),))]),
            (("count", PRICE, ()), [((0,), ((0, 40), (60, 10000))), ((1,), ((40, 60),))]),
            (("count", ITEM, ("name",)), [(("Old mill", 1), ((0, 50),)), (("Tea", 1), ((10, 10000),))]),
            (("sum", ITEM, ("name",), "price"),
             [(("Old mill", 300), ((0, 50),)), (("Tea", 5), ((20, 10000),)), (("Tea", 20), ((10, 20),))]),
            (("sum", PRICE, (), "price"), [((0,), ((0, 40), (60, 10000))), ((300,), ((40, 60),))]),
        ]:
            found = self.asked(question)
            self.assertEqual(found, rows, question)
            self.assertIsInstance(found, list)
            for pair in found:
                self.assertEqual([type(pair), type(pair[0]), type(pair[1])], [tuple] * 3)

    def test_nothing_known(self):
        nothing = PlainSource([])
        for question in (ITEM, ("found", "tag", "name", ("none", ("word", "a"))), ("count", ITEM, ("name",)),
                         ("sum", ITEM, ("name",), "price"), ("join", PRICE, TAG), ("unite", TAG, TAG)):
            self.assertEqual(answer(question, SHOP, nothing), [])
        self.assertEqual(answer(("count", ITEM, ()), SHOP, nothing), [((0,), ALWAYS)])
        self.assertEqual(answer(("sum", ITEM, (), "price"), SHOP, TreeSource(None)), [((0,), ALWAYS)])

    def test_day_by_day(self):
        dice = random.Random(33)
        with_rows = 0
        for _ in range(300):
            known = some_knowledge(dice, 40)
            question = some_question(dice, dice.randint(0, 5))
            found = answer(question, SHOP, PlainSource(known.entries()))
            rows = [row for row, _ in found]
            self.assertEqual(rows, in_order(list(dict.fromkeys(rows))))
            self.assertTrue(all(spans for _, spans in found))
            for day in days_to_try(known):
                tables = tables_on(known, day)
                told = meaning(question, SHOP, tables)
                self.assertEqual(rows_on(found, day), told, (question, day))
                self.assertEqual(told, in_order(list(plain_meaning(question, tables))))
            for _, spans in found:
                for (_, stop), (start, _) in zip(spans, spans[1:]):
                    self.assertLess(stop, start)
            with_rows += len(found) > 2
        self.assertGreater(with_rows, 60)

    def test_the_first_and_the_last_day(self):
        known = Knowledge(SHOP)
        known.apply(("keep", "tag", ("a",), 0, 1))
        known.apply(("keep", "tag", ("b",), 9999, 10000))
        found = answer(("count", TAG, ("name",)), SHOP, PlainSource(known.entries()))
        self.assertEqual(found, [(("a", 1), ((0, 1),)), (("b", 1), ((9999, 10000),))])
        self.assertEqual([rows_on(found, day) for day in (0, 1, 9998, 9999)], [[("a", 1)], [], [], [("b", 1)]])

    def test_rows_on(self):
        rows = [((1,), ((0, 5), (7, 9))), ((2,), ((5, 7),)), ((3,), ALWAYS)]
        self.assertEqual([rows_on(rows, day) for day in (0, 4, 5, 6, 7, 8, 9, 9999)],
                         [[(1,), (3,)], [(1,), (3,)], [(2,), (3,)], [(2,), (3,)], [(1,), (3,)], [(1,), (3,)], [(3,)], [(3,)]])
        self.assertEqual(rows_on([], 0), [])

    def test_bad_questions_are_refused_before_anything_is_asked(self):
        for question, reason in BAD:
            source = NoSource(PlainSource([]), ITEMS)
            with self.assertRaises(BadQuestion) as caught:
                answer(question, SHOP, source)
            self.assertEqual(caught.exception.reason, reason)
            self.assertEqual(source.source.asked, [])

    def test_what_is_returned_can_be_changed(self):
        told = shop().entries()
        before = copy.deepcopy(told)
        for question in (ITEM, ("name", ITEM, "price", "cost"), ("found", "item", "name", ("word", "tea")),
                         ("pick", ITEM, "price", ">", 0), ("unite", ITEM, ITEM)):
            source = PlainSource(told)
            found = answer(question, SHOP, source)
            kept = list(found)
            found.append("more")
            found.reverse()
            self.assertEqual(answer(question, SHOP, source), kept)
            rows_on(kept, 0).append("more")
            self.assertEqual(answer(question, SHOP, source), kept)
            asked = needs(question, SHOP)
            asked.append("more")
            self.assertEqual(needs(question, SHOP), asked[:-1])
        self.assertEqual(told, before)


class Needs(unittest.TestCase):
    def test_chains(self):
        def pick(part, *told):
            for column, comparison, value in told:
                part = ("pick", part, column, comparison, value)
            return part
        for question, values in [
            (ITEM, ()),
            (pick(ITEM, ("name", "=", "a")), ("a",)),
            (pick(ITEM, ("name", "<>", "a")), ()), (pick(ITEM, ("name", "<", "a")), ()), (pick(ITEM, ("name", ">", "a")), ()),
            (pick(ITEM, ("price", "=", 7)), ()), (pick(ITEM, ("price", "=", 7), ("note", "=", "x")), ()),
            (pick(ITEM, ("price", "=", 7), ("name", "=", "a")), ("a", 7)),
            (pick(ITEM, ("name", "=", "a"), ("price", "=", 7)), ("a", 7)),
            (pick(ITEM, ("name", "=", "a"), ("note", "=", "x")), ("a",)),
            (pick(ITEM, ("note", "=", "x"), ("price", "=", 7), ("name", "=", "a")), ("a", 7, "x")),
            (pick(ITEM, ("name", "=", "a"), ("price", "<", 9), ("price", "=", 7), ("price", ">", 5)), ("a", 7)),
            (pick(ITEM, ("name", "=", "a"), ("name", "=", "b")), ("a",)),
            (pick(ITEM, ("name", "<>", "a"), ("name", "=", "b"), ("name", "=", "c")), ("b",)),
            (pick(ITEM, ("price", "=", 7), ("price", "=", 8), ("name", "=", "")), ("", 7)),
        ]:
            self.assertEqual(needs(question, SHOP), [range_of(("t", "item") + values)], question)
        self.assertEqual(needs(pick(PRICE, ("price", "=", 0)), SHOP), [range_of(("t", "price", 0))])
        self.assertEqual(needs(PRICE, SHOP), [((2, 116, 0, 2, 112, 114, 105, 99, 101, 0),
                                               (2, 116, 0, 2, 112, 114, 105, 99, 101, 0, 3))])

    def test_what_is_no_chain(self):
        for question in [("pick", ("keep", ITEM, ("name",)), "name", "=", "a"), ("pick", ("same", ITEM, "name", "note"), "name", "=", "a"),
                         ("pick", ("name", ITEM, "price", "cost"), "name", "=", "a"), ("keep", ITEM, ("name",)),
                         ("count", ITEM, ()), ("sum", ITEM, (), "price"), ("same", ITEM, "name", "note"),
                         ("name", ITEM, "name", "x"), ("unite", ITEM, ITEM), ("less", ITEM, ITEM), ("join", ITEM, ITEM)]:
            self.assertEqual(needs(question, SHOP), [ITEMS], question)
        inner = ("pick", ITEM, "name", "=", "a")
        self.assertEqual(needs(("pick", ("keep", inner, ("name", "price")), "price", "=", 7), SHOP), [range_of(("t", "item", "a"))])

    def test_found(self):
        mill, old = range_of(("w", "item", "name", "mill")), range_of_text(("w", "item", "name"), "ol")
        wish = ("all", (("word", "mill"), ("none", ("begins", "ol")), ("word", "mill")))
        self.assertEqual(needs(("found", "item", "name", wish), SHOP), [mill, ITEMS, old])
        self.assertEqual(needs(("pick", ("found", "item", "name", ("word", "mill")), "name", "=", "a"), SHOP), [mill])
        self.assertEqual(needs(("found", "item", "note", ("word", "mill")), SHOP), [range_of(("w", "item", "note", "mill"))])

    def test_each_range_once_where_it_comes_first(self):
        self.assertEqual(needs(("join", ("join", TAG, PRICE), ("join", ITEM, TAG)), SHOP), [TAGS, PRICES, ITEMS])
        self.assertEqual(needs(("less", ("keep", ITEM, ("name",)), TAG), SHOP), [ITEMS, TAGS])
        found = ("found", "item", "name", ("none", ("word", "a")))
        self.assertEqual(needs(("unite", found, ITEM), SHOP), [ITEMS, range_of(("w", "item", "name", "a"))])
        self.assertEqual(needs(("unite", ("pick", ITEM, "name", "=", "a"), ITEM), SHOP), [range_of(("t", "item", "a")), ITEMS])

    def test_many_questions(self):
        dice = random.Random(34)
        for _ in range(300):
            question = some_question(dice, dice.randint(0, 5))
            found = needs(question, SHOP)
            self.assertIsInstance(found, list)
            self.assertEqual(found, plain_needs(question), question)

    def test_bad_questions(self):
        for question, reason in BAD:
            with self.assertRaises(BadQuestion) as caught:
                needs(question, SHOP)
            self.assertEqual(caught.exception.reason, reason)

    def test_just_these_ranges_are_asked(self):
        dice = random.Random(35)
        for _ in range(200):
            question = some_question(dice, dice.randint(0, 5))
            for known in (Knowledge(SHOP), some_knowledge(dice)):
                source = PlainSource(known.entries())
                answer(question, SHOP, source)
                self.assertEqual(source.asked, needs(question, SHOP))

    def test_unknown_is_raised_on(self):
        dice = random.Random(36)
        for _ in range(60):
            question = some_question(dice, dice.randint(0, 4))
            for asked in needs(question, SHOP):
                # Also where nothing is known, so where no other range tells a row.
                with self.assertRaises(Unknown):
                    answer(question, SHOP, NoSource(PlainSource([]), asked))
            other = NoSource(PlainSource([]), ((0,), (1,)))
            self.assertEqual(answer(question, SHOP, other), answer(question, SHOP, PlainSource([])))

    def test_a_tree_pruned_to_what_is_needed_suffices(self):
        dice = random.Random(37)
        refused = 0
        for _ in range(120):
            tree = tree_of(HASHER, some_knowledge(dice).entries())
            question = some_question(dice, dice.randint(0, 4))
            pruned = prune(tree, needs(question, SHOP))
            self.assertEqual(root(HASHER, pruned), root(HASHER, tree))
            self.assertEqual(answer(question, SHOP, TreeSource(pruned)), answer(question, SHOP, TreeSource(tree)))
            bare = prune(tree, [])
            try:
                self.assertEqual(answer(question, SHOP, TreeSource(bare)), answer(question, SHOP, TreeSource(tree)))
            except Unknown:
                refused += 1
        self.assertGreater(refused, 60)


if __name__ == "__main__":
    unittest.main()
