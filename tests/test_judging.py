import copy
import random
import unittest

from askedthen.answering import answer, needs
from askedthen.clashes import find_clash
from askedthen.errors import BadPaper, BadQuestion, Unknown
from askedthen.hashing import Hasher
from askedthen.judging import fits, judge
from askedthen.papers import paper_of, tree_of_paper
from askedthen.pruning import prune
from askedthen.spans import ALWAYS
from askedthen.trees import TreeSource, put, root, tree_of
from plain_keeping import BAD, DEEDS, HASHER, ITEM, PRICE, TAG, known_behind, some_deeds
from plain_questions import some_question
from samples import ODD, SHOP, WIDE

DAYS = ((3, 7),)
ROW = ("Old mill", 300, "old")
FIT = [("t", "item") + ROW, ("t", "item", "", 0, ""), ("t", "price", 999999), ("t", "tag", "~" * 40),
       ("w", "item", "name", "mill") + ROW, ("w", "item", "note", "mill") + ROW, ("w", "item", "name", "0") + ROW,
       ("w", "tag", "name", "x" * 40, ""), ("w", "tag", "name", "a", "b")]
UNFIT = [
    ("t",), ("w",), ("a",), (0,), ("t", 0), (0, "item") + ROW, ("T", "item") + ROW, ("item",) + ROW, ("t", "t", "item") + ROW,
    ("t", "item"), ("t", "no") + ROW, ("t", "Item") + ROW, ("", "item") + ROW, ("tw", "item") + ROW, ("t", "price", "300"),
    ("t", "item", 300, "Old mill", "old"), ("t", "item", "Old mill", "300", "old"), ("t", "item", "Old mill", 300),
    ("t", "item", "Old mill", 300, "old", "old"), ("t", "item", "Old mill", 300, 0), ("t", "tag", 7), ("t", "tag"),
    ("t", "tag", "a", "b"), ("t", 7, "a"), ("w", "item") + ROW, ("w", "item", "name") + ROW, ("w", "item", "mill") + ROW,
    ("w", "item", "no", "mill") + ROW, ("w", "item", "price", "300") + ROW, ("w", "item", "name", "") + ROW,
    ("w", "item", "name", "Mill") + ROW, ("w", "item", "name", "old mill") + ROW, ("w", "item", "name", 7) + ROW,
    ("w", "item", 7, "mill") + ROW, ("w", 7, "name", "mill") + ROW, ("w", "no", "name", "mill") + ROW,
    ("w", "item", "name", "mill", "mill") + ROW, ("w", "item", "name", "mill") + ROW[:2], ("w", "item", "name", "mill"),
    ("w", "item", "name"), ("w", "item"), ("w", "tag", "name", "tea"), ("w", "tag", "name", "tea", 7), ("x", "item", "name", "mill") + ROW,
    ("w", "price", "price", "a", 300), ("w", "price", "name", "a", 300), ("w", "tag", "name", "x" * 41, "a"),
    ("w", "item", "name", "-") + ROW, ("t", "w", "item", "name", "mill") + ROW,
]
ANSWERS = ODD + [(), "", "[]", 0, 7, [()], [[]], [((),)], [((), ())], [None], [ITEM], {"a": 1}, [([], [])], [(ROW, None)]]
PAPERS = [item for item in ODD if not isinstance(item, list)] + [
    (), "", "paper", 0, 7, -1, [None], [[]], [()], [("node",)], [("leaf",)], [("node",)] * 3, ["leaf"], [("pruned",)],
    [("pruned", 1, (), (), 0)], [("leaf", ("t", "tag", "a"), ())], [("leaf", ("t",), DAYS)] * 2, [1.0], [object()]]


def shop(deeds=DEEDS[:4]):
    return tree_of(HASHER, known_behind(deeds).entries())


class Fits(unittest.TestCase):
    def test_keys_of_entries(self):
        for key in FIT:
            self.assertIs(fits(SHOP, key), True, key)
        for key in UNFIT:
            self.assertIs(fits(SHOP, key), False, key)

    def test_all_entries_of_what_is_known(self):
        for key, _ in known_behind(some_deeds(random.Random(1), 60)).entries():
            self.assertIs(fits(SHOP, key), True, key)
        long = ("w", "tttttttt", "eeeeeeee", "x" * 40) + ("x" * 40,) * 5
        self.assertIs(fits(WIDE, long), True)
        self.assertIs(fits(WIDE, long + ("x",)), False)
        self.assertIs(fits(SHOP, long), False)

    def test_a_value_changed_put_in_or_left_out(self):
        values = [0, 7, "", "t", "w", "item", "tag", "name", "mill", "Mill", "old mill"]
        plain = 0
        for key in FIT:
            for place in range(len(key) + 1):
                for other in [key[:place] + key[place + 1:], *(key[:place] + (value,) + key[place + 1:] for value in values),
                              *(key[:place] + (value,) + key[place:] for value in values)]:
                    self.assertIs(fits(SHOP, other), self.is_plainly_fit(other), other)
                    plain += self.is_plainly_fit(other)
        self.assertGreater(plain, 50)

    def is_plainly_fit(self, key):
        kinds = ["number" if isinstance(value, int) else "text" for value in key]
        for table, columns in SHOP:
            told = [kind for _, kind in columns]
            if key[:2] == ("t", table) and kinds[2:] == told:
                return True
            for column, kind in columns:
                if kind == "text" and key[:3] == ("w", table, column) and kinds[4:] == told:
                    return key[3] in ("t", "w", "item", "tag", "name", "mill", "0", "a", "x" * 40)
        return False


class Judge(unittest.TestCase):
    def takes(self, tree, question, rows, parts, hasher=HASHER):
        found = judge(hasher, SHOP, root(hasher, tree), question, rows, parts)
        self.assertIsInstance(found, bool)
        return found

    def test_the_right_answer_with_its_paper(self):
        dice = random.Random(35)
        for _ in range(120):
            tree = shop(some_deeds(dice, dice.randint(0, 25)))
            question = some_question(dice, dice.randint(0, 4))
            rows = answer(question, SHOP, TreeSource(tree))
            paper = paper_of(prune(tree, needs(question, SHOP)))
            self.assertTrue(self.takes(tree, question, rows, paper), question)
            self.assertTrue(self.takes(tree, question, rows, paper_of(tree)), question)
            self.assertFalse(self.takes(tree, question, rows + [(ROW, DAYS)], paper))
            for other in [rows[:-1], rows[1:], rows[::-1], [(row, ALWAYS) for row, _ in rows], [(row, DAYS) for row, _ in rows],
                          tuple(rows), [list(pair) for pair in rows], [(list(row), spans) for row, spans in rows],
                          [(row, list(spans)) for row, spans in rows], dict(rows)]:
                self.assertIs(self.takes(tree, question, other, paper), type(other) is list and other == rows)
                self.assertIs(self.takes(tree, question, other, paper_of(tree)), type(other) is list and other == rows)

    def test_the_empty_state(self):
        for question in (ITEM, ("found", "tag", "name", ("none", ("word", "a"))), ("join", ITEM, TAG)):
            self.assertTrue(self.takes(None, question, [], []))
            self.assertFalse(self.takes(None, question, [(ROW, DAYS)], []))
            self.assertFalse(self.takes(shop(), question, [], []))
        self.assertTrue(self.takes(None, ("count", TAG, ()), [((0,), ALWAYS)], []))
        self.assertFalse(self.takes(None, ("count", TAG, ()), [], []))

    def test_what_python_takes_for_equal_is_another_answer(self):
        tree = shop(DEEDS[1:2])
        question = ("count", TAG, ())
        rows = answer(question, SHOP, TreeSource(tree))
        self.assertEqual(rows, [((0,), ((0, 10), (20, 10000))), ((1,), ((10, 20),))])
        paper = paper_of(tree)
        self.assertTrue(self.takes(tree, question, rows, paper))
        for other in [[((False,), rows[0][1]), rows[1]], [rows[0], ((True,), rows[1][1])], [rows[0], ((1.0,), rows[1][1])],
                      [((0,), ((False, 10), (20, 10000))), rows[1]], [rows[0], ((1,), ((10, 20.0),))]]:
            self.assertEqual(other, rows)
            self.assertFalse(self.takes(tree, question, other, paper))

    def test_anything_as_rows(self):
        tree = shop()
        paper = paper_of(tree)
        for rows in ANSWERS + [[(row, DAYS) for row in ODD], [(ROW, spans) for spans in ODD]]:
            self.assertIs(self.takes(tree, ITEM, rows, paper), False)
        for odd in ODD:
            for rows in ([odd], [(odd, DAYS)], [(ROW, odd)], [(ROW, (odd,))], [(ROW, ((odd, 7),))], [((odd, 300, "old"), DAYS)]):
                self.assertIs(self.takes(tree, ITEM, rows, paper), False)
        # With one row that is told, so that only the odd thing is unlike.
        tree = tree_of(HASHER, [(("t", "tag", "Tea"), DAYS)])
        for odd in ODD:
            for rows in (odd, [odd], [(odd, DAYS)], [((odd,), DAYS)], [(("Tea",), odd)], [(("Tea",), (odd,))],
                         [(("Tea",), ((3, odd),))], [(("Tea",), DAYS, odd)], [(("Tea",), DAYS), odd]):
                self.assertIs(self.takes(tree, TAG, rows, paper_of(tree)), False)
        self.assertTrue(self.takes(tree, TAG, [(("Tea",), DAYS)], paper_of(tree)))

    def test_anything_as_parts(self):
        for tree in (shop(), tree_of(HASHER, [(("t", "tag", "a"), DAYS)])):
            for parts in PAPERS + [[]]:
                self.assertIs(self.takes(tree, TAG, answer(TAG, SHOP, TreeSource(tree)), parts), False)
        for parts in PAPERS:
            self.assertIs(self.takes(None, TAG, [], parts), False)
        for odd in ODD:
            for parts in ([odd], [("leaf", odd, DAYS)], [("leaf", ("t", "tag", "a"), odd)], [("leaf", (odd,), DAYS)],
                          [(odd, ("t", "tag", "a"), DAYS)], [("leaf", ("t", "tag", "a"), DAYS), odd], [(odd,)],
                          [("pruned", odd, (), (), 0)], [("leaf", ("t", "tag", odd), DAYS)]):
                self.assertIs(self.takes(None, TAG, [], parts), False)

    def test_a_paper_that_cannot_be_read(self):
        tree = shop()
        paper = paper_of(tree)
        rows = answer(ITEM, SHOP, TreeSource(tree))
        self.assertTrue(self.takes(tree, ITEM, rows, paper))
        for parts in [paper[1:], paper[:-1], paper[::-1], paper + paper, [("node",)] + paper, paper + [("node",)], tuple(paper)]:
            self.assertFalse(self.takes(tree, ITEM, rows, parts))
        self.assertRaises(BadPaper, tree_of_paper, HASHER, paper[1:])

    def test_another_digest(self):
        tree = shop()
        other = put(HASHER, tree, ("t", "tag", "Tea"), ((0, 1),))
        rows, paper = answer(ITEM, SHOP, TreeSource(tree)), paper_of(tree)
        digest = root(HASHER, tree)
        for wrong in (digest + 1, digest - 1, 0, root(HASHER, other), root(HASHER, None), digest + HASHER.modulus):
            self.assertFalse(judge(HASHER, SHOP, wrong, ITEM, rows, paper))
        # What a paper of another state tells is another answer, though the answer to this question is the same.
        self.assertEqual(answer(ITEM, SHOP, TreeSource(other)), rows)
        self.assertFalse(self.takes(tree, ITEM, rows, paper_of(other)))
        self.assertFalse(judge(Hasher(2 ** 31 - 1, 1000005), SHOP, digest, ITEM, rows, paper))

    def test_a_leaf_whose_key_is_that_of_no_entry(self):
        for key in UNFIT:
            tree = put(HASHER, shop(), key, DAYS)
            try:
                rows = answer(PRICE, SHOP, TreeSource(tree))
            except IndexError:
                rows = []
            self.assertFalse(self.takes(tree, PRICE, rows, paper_of(tree)), key)
        # Where it is pruned nobody knows of it.
        tree = put(HASHER, shop(), ("t", "item"), DAYS)
        paper = paper_of(prune(tree, needs(TAG, SHOP)))
        self.assertTrue(self.takes(tree, TAG, answer(TAG, SHOP, TreeSource(tree)), paper))
        tree = tree_of(HASHER, [(("t", "tag", "a", "b"), DAYS)])
        self.assertFalse(self.takes(tree, TAG, [(("a", "b"), DAYS)], paper_of(tree)))

    def test_the_schema_decides(self):
        tree = tree_of(HASHER, [(("t", "tag", "a"), DAYS)])
        rows, paper = [(("a",), DAYS)], paper_of(tree)
        digest = root(HASHER, tree)
        self.assertTrue(judge(HASHER, (("tag", (("x", "text"),)),), digest, TAG, rows, paper))
        self.assertFalse(judge(HASHER, (("tag", (("x", "number"),)),), digest, TAG, rows, paper))

    def test_a_paper_that_does_not_tell_enough(self):
        tree = shop()
        for question in (ITEM, TAG, ("found", "item", "name", ("word", "mill")), ("join", ITEM, TAG)):
            rows = answer(question, SHOP, TreeSource(tree))
            self.assertFalse(self.takes(tree, question, rows, paper_of(prune(tree, []))))
            for left in needs(question, SHOP):
                told = [asked for asked in needs(question, SHOP) if asked != left]
                paper = paper_of(prune(tree, told))
                self.assertRaises(Unknown, answer, question, SHOP, TreeSource(tree_of_paper(HASHER, paper)))
                self.assertFalse(self.takes(tree, question, rows, paper))

    def test_a_paper_that_tells_more_than_enough(self):
        tree = shop()
        rows = answer(TAG, SHOP, TreeSource(tree))
        self.assertTrue(self.takes(tree, TAG, rows, paper_of(prune(tree, needs(TAG, SHOP) + needs(ITEM, SHOP)))))

    def test_bad_questions_and_no_other_error(self):
        tree = shop()
        for question, reason in BAD:
            for parts in PAPERS + [[], paper_of(tree)]:
                with self.assertRaises(BadQuestion) as caught:
                    judge(HASHER, SHOP, root(HASHER, tree), question, [], parts)
                self.assertEqual(caught.exception.reason, reason)
            with self.assertRaises(BadQuestion):
                judge(HASHER, SHOP, 0, question, None, None)

    def test_another_answer_that_is_taken_shows_a_clash(self):
        dice = random.Random(36)
        taken = 0
        for _ in range(400):
            hasher = Hasher(dice.choice([2, 3, 7]), dice.choice([1, 2, 5]))
            deeds = some_deeds(dice, dice.randint(0, 5))
            tree = tree_of(hasher, known_behind(deeds).entries())
            other = tree_of(hasher, known_behind(some_deeds(dice, dice.randint(0, 5))).entries())
            question = some_question(dice, dice.randint(0, 2))
            rows = answer(question, SHOP, TreeSource(other))
            parts = paper_of(prune(other, needs(question, SHOP)))
            if self.takes(tree, question, rows, parts, hasher):
                clash = find_clash(hasher, tree, tree_of_paper(hasher, parts))
                if rows != answer(question, SHOP, TreeSource(tree)):
                    taken += 1
                    self.assertNotEqual(clash[0], clash[1])
                    self.assertEqual(hasher.digest(clash[0]), hasher.digest(clash[1]))
        self.assertGreater(taken, 10)

    def test_nothing_that_is_handed_in_is_changed(self):
        tree = shop()
        rows, parts = answer(ITEM, SHOP, TreeSource(tree)), paper_of(tree)
        before = copy.deepcopy((rows, parts))
        self.assertTrue(self.takes(tree, ITEM, rows, parts))
        self.assertEqual((rows, parts), before)


if __name__ == "__main__":
    unittest.main()
