import copy
import random
import unittest

from askedthen.answering import answer
from askedthen.askers import Asker, digest_after
from askedthen.errors import BadPaper, BadQuestion, InvalidArgument, Unknown
from askedthen.hashing import Hasher
from askedthen.papers import paper_of
from askedthen.pruning import prune, prune_for
from askedthen.rows import extension, find_extension_clash, find_row_clash, inclusion, row_digest
from askedthen.trees import TreeSource, put, root, tree_of
from plain_keeping import BAD, DEEDS, HASHER, ITEM, TAG, keeper_of, known_behind, some_deeds
from samples import ODD, SHOP

ROW = [7, 0, 7, 5, 123456789, 7, 2, 9, 1]


def asker_of(digests, hasher=HASHER):
    return Asker(hasher, SHOP, row_digest(hasher, digests), len(digests))


class Learning(unittest.TestCase):
    def assert_knows(self, asker, digests):
        self.assertEqual((asker.row, asker.size), (row_digest(HASHER, digests), len(digests)))

    def test_what_it_knows_first(self):
        asker = Asker(HASHER, SHOP, 77, 1)
        self.assertEqual((asker.row, asker.size), (77, 1))
        for size in (0, -1, -7):
            with self.assertRaises(InvalidArgument) as caught:
                Asker(HASHER, SHOP, 77, size)
            self.assertEqual(caught.exception.name, "size")

    def test_later_rows(self):
        for old in range(1, len(ROW) + 1):
            for size in range(old, len(ROW) + 1):
                asker = asker_of(ROW[:old])
                paper = extension(HASHER, ROW[:size], old)
                self.assertIs(asker.learn(row_digest(HASHER, ROW[:size]), size, paper), True)
                self.assert_knows(asker, ROW[:size])

    def test_one_after_the_other(self):
        asker = asker_of(ROW[:1])
        for size in (2, 2, 5, 6, 9):
            paper = extension(HASHER, ROW[:size], asker.size)
            self.assertTrue(asker.learn(row_digest(HASHER, ROW[:size]), size, paper))
            self.assert_knows(asker, ROW[:size])

    def refuses(self, old, row, size, paper):
        """What is not taken changes nothing."""
        asker = asker_of(ROW[:old])
        self.assertIs(asker.learn(row, size, paper), False)
        self.assert_knows(asker, ROW[:old])

    def test_the_same_size(self):
        for size in range(1, len(ROW) + 1):
            row = row_digest(HASHER, ROW[:size])
            paper = extension(HASHER, ROW[:size], size)
            asker = asker_of(ROW[:size])
            self.assertTrue(asker.learn(row, size, paper))
            self.assert_knows(asker, ROW[:size])
            other = ROW[:size - 1] + [8]
            self.refuses(size, row_digest(HASHER, other), size, paper)
            self.refuses(size, row_digest(HASHER, other), size, extension(HASHER, other, size))
            self.refuses(size, row, size, [])
            self.refuses(size, row, size, [paper[0] + 1])

    def test_a_lesser_size(self):
        for old in range(2, len(ROW) + 1):
            for size in list(range(1, old)) + [0, -1]:
                row = row_digest(HASHER, ROW[:max(size, 1)])
                for paper in ([], [row], extension(HASHER, ROW[:old], max(size, 1)), extension(HASHER, ROW[:max(size, 1)], 1)):
                    self.refuses(old, row, size, paper)
                    self.refuses(old, row_digest(HASHER, ROW[:old]), size, paper)

    def test_papers_that_lead_elsewhere(self):
        for old in range(1, len(ROW)):
            for size in range(old + 1, len(ROW) + 1):
                row = row_digest(HASHER, ROW[:size])
                paper = extension(HASHER, ROW[:size], old)
                self.refuses(old, row + 1, size, paper)
                self.refuses(old, row, size, paper[:-1])
                self.refuses(old, row, size, paper + [0])
                self.refuses(old, row, size, paper[::-1] if paper != paper[::-1] else [])
                for place in range(len(paper)):
                    self.refuses(old, row, size, paper[:place] + [paper[place] + 1] + paper[place + 1:])
                # A later row that does not begin with the known one.
                other = ROW[:old - 1] + [ROW[old - 1] + 1] + ROW[old:size]
                self.refuses(old, row_digest(HASHER, other), size, extension(HASHER, other, old))
                self.refuses(old, row, size + 1, paper)

    def test_a_wrong_row_that_is_learnt_shows_a_clash(self):
        dice = random.Random(37)
        taken = 0
        for _ in range(400):
            hasher = Hasher(dice.choice([2, 3, 5]), dice.choice([1, 2, 4]))
            known = [dice.randint(0, 4) for _ in range(dice.randint(1, 5))]
            later = [dice.randint(0, 4) for _ in range(dice.randint(len(known), 7))]
            asker = asker_of(known, hasher)
            paper = extension(hasher, later, len(known))
            if asker.learn(row_digest(hasher, later), len(later), paper) and later[:len(known)] != known:
                taken += 1
                one, other = find_extension_clash(hasher, known, later, paper)
                self.assertNotEqual(one, other)
                self.assertEqual(hasher.digest(one), hasher.digest(other))
        self.assertGreater(taken, 20)


class States(unittest.TestCase):
    def test_each_place(self):
        for size in range(1, len(ROW) + 1):
            asker = asker_of(ROW[:size])
            for number in range(size):
                paper = inclusion(HASHER, ROW[:size], number)
                self.assertIs(asker.takes_state(number, ROW[number], paper), True)
                self.assertIs(asker.takes_state(number, ROW[number] + 1, paper), False)
                self.assertIs(asker.takes_state(number, ROW[number], paper + [0]), False)
                for place in range(len(paper)):
                    self.assertFalse(asker.takes_state(number, ROW[number], paper[:place] + paper[place + 1:]))
                    wrong = paper[:place] + [paper[place] + 1] + paper[place + 1:]
                    self.assertFalse(asker.takes_state(number, ROW[number], wrong))
                for other in range(size):
                    same = inclusion(HASHER, ROW[:size], other) == paper and ROW[other] == ROW[number]
                    self.assertIs(asker.takes_state(other, ROW[number], paper), other == number or same)
            self.assertEqual((asker.row, asker.size), (row_digest(HASHER, ROW[:size]), size))

    def test_numbers_that_are_not_there(self):
        for size in range(1, len(ROW) + 1):
            asker = asker_of(ROW[:size])
            for number in (-1, -2, -size, size, size + 1, 2 * size, 10 ** 9):
                for paper in ([], inclusion(HASHER, ROW[:size], 0), inclusion(HASHER, ROW[:size], size - 1)):
                    for digest in (ROW[0], ROW[size - 1]):
                        self.assertIs(asker.takes_state(number, digest, paper), False)

    def test_a_wrong_digest_that_is_taken_shows_a_clash(self):
        dice = random.Random(38)
        taken = 0
        for _ in range(300):
            hasher = Hasher(dice.choice([2, 3, 5]), dice.choice([1, 2, 4]))
            digests = [dice.randint(0, 4) for _ in range(dice.randint(1, 6))]
            number = dice.randrange(len(digests))
            digest, paper = dice.randint(0, 4), inclusion(hasher, digests, number)
            if asker_of(digests, hasher).takes_state(number, digest, paper) and digest != digests[number]:
                taken += 1
                one, other = find_row_clash(hasher, digests, number, digest, paper)
                self.assertNotEqual(one, other)
                self.assertEqual(hasher.digest(one), hasher.digest(other))
        self.assertGreater(taken, 20)


class Answers(unittest.TestCase):
    def setUp(self):
        self.keeper = keeper_of(DEEDS)
        self.asker = Asker(HASHER, SHOP, self.keeper.row_digest(), len(DEEDS) + 1)

    def state(self, number):
        return (number, self.keeper.digest(number), self.keeper.inclusion(number))

    def test_answers(self):
        for number in range(len(DEEDS) + 1):
            for question in (ITEM, TAG, ("count", TAG, ()), ("found", "item", "name", ("word", "mill"))):
                rows, parts = self.keeper.ask(question, number)
                self.assertIs(self.asker.takes(question, rows, parts, self.state(number)), True)
                self.assertIs(self.asker.takes(question, rows + rows[:1] + ["more"], parts, self.state(number)), False)
                self.assertIs(self.asker.takes(question, rows, [("node",)], self.state(number)), False)
                for other in range(len(DEEDS) + 1):
                    alike = self.keeper.digest(other) == self.keeper.digest(number)
                    self.assertIs(self.asker.takes(question, rows, parts, self.state(other)), alike)

    def test_the_digest_has_to_be_taken(self):
        rows, parts = self.keeper.ask(ITEM, 3)
        number, digest, paper = self.state(3)
        self.assertTrue(self.asker.takes(ITEM, rows, parts, (number, digest, paper)))
        for wrong in [(2, digest, paper), (number, digest + 1, paper), (number, digest, paper[1:]), (-1, digest, paper),
                      (number, digest, [paper[0] + 1] + paper[1:]), (len(DEEDS) + 1, digest, paper)]:
            self.assertIs(self.asker.takes(ITEM, rows, parts, wrong), False)
        # A state that nobody was told of, though the judge takes the answer about it.
        tree = tree_of(HASHER, [(("t", "tag", "a"), ((0, 5),))])
        for state in [(3, root(HASHER, tree), paper), (3, root(HASHER, tree), [])]:
            self.assertFalse(self.asker.takes(TAG, [(("a",), ((0, 5),))], paper_of(tree), state))

    def test_bad_questions(self):
        number, digest, paper = self.state(3)
        for question, reason in BAD:
            for parts in ([], None, paper_of(self.keeper.tree(3))):
                with self.assertRaises(BadQuestion) as caught:
                    self.asker.takes(question, [], parts, (number, digest, paper))
                self.assertEqual(caught.exception.reason, reason)
                self.assertIs(self.asker.takes(question, [], parts, (number, digest + 1, paper)), False)
                self.assertIs(self.asker.takes(question, [], parts, (-1, digest, paper)), False)

    def test_anything_as_rows_and_parts(self):
        for odd in ODD:
            self.assertIs(self.asker.takes(ITEM, odd, paper_of(self.keeper.tree(3)), self.state(3)), False)
            self.assertIs(self.asker.takes(ITEM, [], odd, self.state(3)), False)
        self.assertEqual((self.asker.row, self.asker.size), (self.keeper.row_digest(), len(DEEDS) + 1))

    def test_askers_do_not_know_of_each_other(self):
        other = Asker(Hasher(1000, 10), SHOP, 7, 2)
        rows, parts = self.keeper.ask(ITEM, 3)
        self.assertFalse(other.takes(ITEM, rows, parts, self.state(3)))
        self.assertTrue(self.asker.takes(ITEM, rows, parts, self.state(3)))
        self.assertEqual((other.row, other.size), (7, 2))


class Changes(unittest.TestCase):
    KEY, OTHER, GONE = ("t", "tag", "Zebra"), ("t", "tag", "a"), ("t", "tag", "Tea")

    def setUp(self):
        self.asker = Asker(HASHER, SHOP, 7, 1)
        self.tree = tree_of(HASHER, known_behind(DEEDS[:4]).entries())
        self.before = root(HASHER, self.tree)

    def behind(self, changes):
        tree = self.tree
        for key, spans in changes:
            tree = put(HASHER, tree, key, spans)
        return root(HASHER, tree)

    def takes(self, before, after, changes, parts):
        found = self.asker.takes_change(before, after, changes, parts)
        self.assertIsInstance(found, bool)
        self.assertEqual((self.asker.row, self.asker.size), (7, 1))
        return found

    def paper(self, changes):
        return paper_of(prune_for(self.tree, [key for key, _ in changes]))

    def test_changes(self):
        days = ((3, 7),)
        for changes in [[], [(self.KEY, days)], [(self.GONE, ())], [(self.GONE, days)], [(self.KEY, ())],
                        [(self.KEY, days), (self.OTHER, days)], [(self.KEY, days), (self.KEY, ((8, 9),)), (self.GONE, ())],
                        [(self.KEY, days), (self.KEY, ())]]:
            after = self.behind(changes)
            for parts in (self.paper(changes), paper_of(self.tree)):
                self.assertTrue(self.takes(self.before, after, changes, parts), changes)
                self.assertEqual(digest_after(HASHER, changes, parts), after)
                self.assertFalse(self.takes(self.before, after + 1, changes, parts))
                self.assertFalse(self.takes(self.before + 1, after, changes, parts))
                self.assertFalse(self.takes(after + 1, after, changes, parts))
                more = changes + [(("t", "tag", "more"), days)]
                self.assertFalse(self.takes(self.before, after, more, parts))
                self.assertFalse(self.takes(self.before, after, [(self.OTHER, ((0, 1),))], parts))

    def test_the_order_counts(self):
        changes = [(self.KEY, ((3, 7),)), (self.KEY, ())]
        parts = self.paper(changes)
        self.assertTrue(self.takes(self.before, self.before, changes, parts))
        self.assertFalse(self.takes(self.before, self.before, changes[::-1], parts))

    def test_from_and_to_the_empty_state(self):
        empty = root(HASHER, None)
        entry = (self.KEY, ((3, 7),))
        one = root(HASHER, tree_of(HASHER, [entry]))
        self.assertTrue(self.takes(empty, one, [entry], []))
        self.assertTrue(self.takes(one, empty, [(self.KEY, ())], paper_of(tree_of(HASHER, [entry]))))
        self.assertTrue(self.takes(empty, empty, [], []))
        self.assertFalse(self.takes(empty, empty, [entry], []))
        self.assertEqual(digest_after(HASHER, [], []), empty)

    def test_a_paper_that_does_not_suffice(self):
        changes = [(self.GONE, ())]
        parts = paper_of(prune(self.tree, []))
        self.assertFalse(self.takes(self.before, self.behind(changes), changes, parts))
        self.assertRaises(Unknown, digest_after, HASHER, changes, parts)
        self.assertEqual(digest_after(HASHER, [], parts), self.before)

    def test_a_paper_that_cannot_be_read(self):
        changes = [(self.KEY, ((3, 7),))]
        after = self.behind(changes)
        parts = self.paper(changes)
        for wrong in [parts[1:], parts[:-1], parts + parts, [None], [("node",)]] + [[odd] for odd in ODD]:
            self.assertFalse(self.takes(self.before, after, changes, wrong))
            self.assertRaises(BadPaper, digest_after, HASHER, changes, wrong)
        for wrong in [None, 7, "ab", (), {}, tuple(parts)]:
            self.assertFalse(self.takes(self.before, after, changes, wrong))
        with self.assertRaises(BadPaper) as caught:
            digest_after(HASHER, changes, parts[:2] + [None])
        self.assertEqual(caught.exception.place, 2)

    def test_a_paper_of_another_state(self):
        changes = [(self.KEY, ((3, 7),))]
        other = put(HASHER, self.tree, self.OTHER, ((3, 7),))
        after = root(HASHER, put(HASHER, other, self.KEY, ((3, 7),)))
        self.assertFalse(self.takes(self.before, after, changes, paper_of(other)))
        self.assertTrue(self.takes(root(HASHER, other), after, changes, paper_of(other)))

    def test_nothing_that_is_handed_in_is_changed(self):
        changes = [(self.KEY, ((3, 7),)), (self.GONE, ())]
        parts = self.paper(changes)
        before = copy.deepcopy((changes, parts))
        self.takes(self.before, self.behind(changes), changes, parts)
        digest_after(HASHER, changes, parts)
        self.assertEqual((changes, parts), before)

    def test_many(self):
        dice = random.Random(39)
        for _ in range(60):
            deeds = some_deeds(dice, dice.randint(1, 12))
            keeper = keeper_of(deeds)
            for number in range(1, len(deeds) + 1):
                changes, parts = keeper.changes(number)
                before, after = keeper.digest(number - 1), keeper.digest(number)
                self.assertTrue(self.takes(before, after, changes, parts))
                if changes:
                    self.assertFalse(self.takes(before, after, changes[:-1], parts))
        rows = answer(TAG, SHOP, TreeSource(keeper.tree(len(deeds))))
        self.assertEqual(rows, known_behind(deeds).rows("tag"))


if __name__ == "__main__":
    unittest.main()
