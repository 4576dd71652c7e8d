import copy
import random
import unittest

from askedthen.answering import answer, needs
from askedthen.errors import BadQuestion, InvalidArgument, NoSuchDeed, TooManyDeeds
from askedthen.hashing import Hasher
from askedthen.keepers import Keeper
from askedthen.knowing import row_entries
from askedthen.papers import paper_of
from askedthen.pruning import prune, prune_for
from askedthen.rows import extension, inclusion, row_digest
from askedthen.trees import TreeSource, root, tree_of
from plain_keeping import (BAD, COUNTED, DEEDS, HASHER, ITEM, PRICE, SUMMED, TAG, keeper_of, known_behind, some_deeds)
from plain_questions import some_question
from samples import ODD, SHOP

QUESTIONS = [ITEM, PRICE, TAG, COUNTED, SUMMED, ("found", "item", "note", ("begins", "o")), ("join", ITEM, PRICE),
             ("pick", ITEM, "name", "=", "Tea")]
WRONG_NUMBERS = ODD + [-1, "0", "", (), (0,), 10 ** 9, 501]


def told(keeper):
    """All that a keeper tells."""
    many = len(keeper.deeds())
    numbers = range(many + 1)
    return [
        keeper.deeds(), [keeper.tree(number) for number in numbers], [keeper.digest(number) for number in numbers],
        [keeper.ask(question, number) for question in QUESTIONS for number in numbers],
        [keeper.changes(number) for number in range(1, many + 1)], keeper.row_digest(),
        [keeper.inclusion(number) for number in numbers], [keeper.extension(number) for number in numbers],
        [keeper.days(table, row) for table, row in rows_told(keeper.deeds())],
    ]


def rows_told(deeds):
    return [deed[1:3] for deed in deeds if deed[0] != "clear"] + [("item", ("no", 0, "")), ("no", ("a",))]


class Keepers(unittest.TestCase):
    def test_without_deeds(self):
        keeper = Keeper(SHOP, HASHER)
        self.assertEqual((keeper.deeds(), keeper.tree(0), keeper.digest(0)), ([], None, root(HASHER, None)))
        self.assertEqual(keeper.row_digest(), row_digest(HASHER, [root(HASHER, None)]))
        self.assertEqual((keeper.inclusion(0), keeper.days("tag", ("a",))), ([], ()))
        self.assertEqual(keeper.extension(0), extension(HASHER, [root(HASHER, None)], 1))
        self.assertEqual(keeper.ask(ITEM, 0), ([], []))
        self.assertEqual(keeper.ask(COUNTED, 0), ([((0,), ((0, 10000),))], []))

    def test_schema(self):
        for schema in ODD + [(), "item", (("item", ()),), (("item", (("name", "texts"),)),), SHOP + SHOP, list(SHOP)]:
            with self.assertRaises(InvalidArgument) as caught:
                Keeper(schema, HASHER)
            self.assertEqual(caught.exception.name, "schema")

    def test_numbers_of_deeds(self):
        keeper = Keeper(SHOP, HASHER)
        self.assertEqual([keeper.record(deed) for deed in DEEDS], list(range(1, len(DEEDS) + 1)))
        self.assertEqual(keeper.deeds(), DEEDS)
        self.assertEqual(keeper.days("item", ("Old mill", 300, "old")), ((0, 10), (30, 50)))
        self.assertEqual(keeper.days("item", ("Tea", 20, "Old tea")), ((10, 15), (30, 10000)))
        self.assertEqual((keeper.days("tag", ("Tea",)), keeper.days("no", ()), keeper.days("item", ("Tea",))), ((), (), ()))

    def check(self, deeds, keeper, questions):
        """Compare what a keeper tells with what is reckoned anew from its first deeds."""
        digests = []
        for number in range(len(deeds) + 1):
            known = known_behind(deeds[:number])
            tree = tree_of(HASHER, known.entries())
            self.assertEqual(keeper.tree(number), tree)
            self.assertEqual(keeper.digest(number), root(HASHER, tree))
            digests.append(root(HASHER, tree))
            for question in questions:
                rows = answer(question, SHOP, TreeSource(tree))
                parts = paper_of(prune(tree, needs(question, SHOP)))
                self.assertEqual(keeper.ask(question, number), (rows, parts))
            if number > 0:
                self.check_changes(keeper, number, deeds, tree)
        for number in range(len(deeds) + 1):
            self.assertEqual(keeper.inclusion(number), inclusion(HASHER, digests, number))
            self.assertEqual(keeper.extension(number), extension(HASHER, digests, number + 1))
        self.assertEqual(keeper.row_digest(), row_digest(HASHER, digests))
        for table, row in rows_told(deeds):
            self.assertEqual(keeper.days(table, row), known_behind(deeds).days(table, row))

    def check_changes(self, keeper, number, deeds, tree):
        known = known_behind(deeds[:number - 1])
        before = tree_of(HASHER, known.entries())
        changed = [entry for table, row, spans in known.apply(deeds[number - 1])
                   for entry in row_entries(SHOP, table, row, spans)]
        parts = paper_of(prune_for(before, [key for key, _ in changed]))
        found = keeper.changes(number)
        self.assertEqual(found, (changed, parts))
        self.assertEqual([type(found), type(found[0]), type(found[1])], [tuple, list, list])

    def test_what_it_tells(self):
        self.check(DEEDS, keeper_of(DEEDS), QUESTIONS)

    def test_what_it_tells_of_many_deeds(self):
        dice = random.Random(38)
        for _ in range(12):
            deeds = some_deeds(dice, dice.randint(1, 25))
            self.check(deeds, keeper_of(deeds), [some_question(dice, dice.randint(0, 4)) for _ in range(3)])

    def test_changes_that_are_gone(self):
        keeper = keeper_of(DEEDS)
        self.assertEqual(keeper.changes(2)[0], [(("t", "tag", "Tea"), ((10, 20),)), (("w", "tag", "name", "tea", "Tea"), ((10, 20),))])
        self.assertEqual(keeper.changes(4)[0], [])
        self.assertEqual([part[0] for part in keeper.changes(4)[1]], ["pruned"])
        self.assertEqual(keeper.changes(8)[0], [(("t", "tag", "Tea"), ()), (("w", "tag", "name", "tea", "Tea"), ())])
        self.assertEqual(keeper.changes(1)[1], [])
        rows = [key[2:] for key, _ in keeper.changes(7)[0] if key[0] == "t"]
        self.assertEqual(rows, [("Old mill", 300, "old"), ("Tea", 20, "Old tea")])

    def test_nothing_later_changes_what_was_known(self):
        dice = random.Random(3)
        deeds = some_deeds(dice, 30)
        keeper = Keeper(SHOP, HASHER)
        behind = []
        for number, deed in enumerate([None] + deeds):
            if deed is not None:
                keeper.record(deed)
            behind.append((keeper.tree(number), keeper.digest(number), [keeper.ask(question, number) for question in QUESTIONS],
                           keeper.changes(number) if number else None))
        for number, (tree, digest, answers, changes) in enumerate(behind):
            self.assertEqual((keeper.tree(number), keeper.digest(number)), (tree, digest))
            self.assertEqual([keeper.ask(question, number) for question in QUESTIONS], answers)
            self.assertEqual(keeper.changes(number) if number else None, changes)

    def test_a_deed_that_changes_nothing_is_a_deed(self):
        keeper = Keeper(SHOP, HASHER)
        for number in range(1, 4):
            self.assertEqual(keeper.record(("clear", "item", 0, 10000)), number)
            self.assertEqual(keeper.changes(number), ([], []))
        self.assertEqual(keeper.row_digest(), row_digest(HASHER, [root(HASHER, None)] * 4))


class Errors(unittest.TestCase):
    def test_bad_deeds(self):
        keeper = keeper_of(DEEDS)
        before = copy.deepcopy(told(keeper))
        row = ("Tea", 20, "x")
        for deed, name in [((), "deed"), (None, "deed"), (["keep", "tag", ("a",), 0, 1], "deed"), (("put", "tag", ("a",), 0, 1), "deed"),
                           (("keep", "tag", ("a",), 0), "deed"), (("keep", "no", row, 5, 1), "table"), (("clear", "no", 5, 1), "table"),
                           (("keep", "item", ("Tea", 20), 5, 1), "row"), (("keep", "tag", (True,), 0, 1), "row"),
                           (("drop", "item", list(row), 0, 5), "row"), (("keep", "item", row, 5, 5), "days"),
                           (("drop", "item", row, 0, 10001), "days"), (("clear", "item", True, 5), "days")]:
            with self.assertRaises(InvalidArgument) as caught:
                keeper.record(deed)
            self.assertEqual(caught.exception.name, name)
            self.assertEqual(told(keeper), before)
        self.assertEqual(keeper.record(DEEDS[0]), len(DEEDS) + 1)

    def test_numbers_that_are_none(self):
        for deeds in ([], DEEDS):
            keeper = keeper_of(deeds)
            for call, least in [(keeper.tree, 0), (keeper.digest, 0), (keeper.inclusion, 0), (keeper.extension, 0), (keeper.changes, 1),
                                (lambda number: keeper.ask(ITEM, number), 0)]:
                for number in WRONG_NUMBERS + [len(deeds) + 1, len(deeds) + 2] + [0] * least:
                    with self.assertRaises(NoSuchDeed) as caught:
                        call(number)
                    self.assertIs(caught.exception.number, number)
                for number in range(least, len(deeds) + 1):
                    call(number)

    def test_asking(self):
        keeper = keeper_of(DEEDS[:3])
        for question, reason in BAD:
            for number in (0, 3):
                with self.assertRaises(BadQuestion) as caught:
                    keeper.ask(question, number)
                self.assertEqual(caught.exception.reason, reason)
            for number in (-1, 4, True, None):
                self.assertRaises(NoSuchDeed, keeper.ask, question, number)

    def test_500_deeds(self):
        keeper = Keeper(SHOP, HASHER)
        for number in range(1, 501):
            self.assertEqual(keeper.record(("keep", "price", (number % 90,), number, number + 20)), number)
        self.assertEqual(len(keeper.deeds()), 500)
        before = (keeper.row_digest(), keeper.deeds(), keeper.tree(500), keeper.days("price", (1,)))
        for deed in (("keep", "tag", ("a",), 0, 1), ("clear", "price", 0, 10000), ("drop", "price", (1,), 0, 10000)):
            self.assertRaises(TooManyDeeds, keeper.record, deed)
        for deed, name in [((), "deed"), (("clear", "no", 0, 1), "table"), (("keep", "tag", (1,), 0, 1), "row"), (("clear", "tag", 1, 1), "days")]:
            with self.assertRaises(InvalidArgument) as caught:
                keeper.record(deed)
            self.assertEqual(caught.exception.name, name)
        self.assertEqual((keeper.row_digest(), keeper.deeds(), keeper.tree(500), keeper.days("price", (1,))), before)
        self.assertRaises(NoSuchDeed, keeper.tree, 501)
        tree = tree_of(HASHER, known_behind(keeper.deeds()).entries())
        self.assertEqual(keeper.digest(500), root(HASHER, tree))
        self.assertEqual(keeper.row_digest(), row_digest(HASHER, [keeper.digest(number) for number in range(501)]))

    def test_calls_that_raise_change_nothing(self):
        keeper = keeper_of(DEEDS)
        before = copy.deepcopy(told(keeper))
        for call in [lambda: keeper.tree(99), lambda: keeper.changes(0), lambda: keeper.ask((), 0), lambda: keeper.ask(ITEM, 99),
                     lambda: keeper.inclusion(99), lambda: keeper.extension(-1), lambda: keeper.digest(None)]:
            self.assertRaises((NoSuchDeed, BadQuestion), call)
        self.assertEqual(told(keeper), before)


class Apart(unittest.TestCase):
    def test_what_is_handed_out_can_be_changed(self):
        keeper = keeper_of(DEEDS)
        before = copy.deepcopy(told(keeper))
        keeper.deeds().clear()
        for number in range(len(DEEDS) + 1):
            keeper.inclusion(number).append(7)
            keeper.extension(number).reverse()
            for question in QUESTIONS:
                for found in keeper.ask(question, number):
                    found.append("more")
                    found.reverse()
            if number:
                for found in keeper.changes(number):
                    found.append("more")
                    found.reverse()
        self.assertEqual(told(keeper), before)
        self.assertEqual(keeper.record(("keep", "tag", ("a",), 0, 1)), len(DEEDS) + 1)

    def test_two_keepers_do_not_know_of_each_other(self):
        one, other = keeper_of(DEEDS), Keeper(SHOP, HASHER)
        before = copy.deepcopy(told(one))
        for deed in DEEDS[::-1]:
            other.record(deed)
        self.assertEqual(told(one), before)
        self.assertEqual(told(other), told(keeper_of(DEEDS[::-1])))
        third = Keeper((("item", (("x", "number"),)),), Hasher(7, 3))
        third.record(("keep", "item", (1,), 0, 5))
        self.assertEqual(told(one), before)
        self.assertEqual(Keeper(SHOP, HASHER).deeds(), [])


if __name__ == "__main__":
    unittest.main()
