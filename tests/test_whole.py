"""What the document promises of the whole program: keepers, and askers who know one number."""

import random
import unittest

from askedthen.askers import Asker
from askedthen.clashes import find_clash
from askedthen.hashing import Hasher
from askedthen.judging import judge
from askedthen.keepers import Keeper
from askedthen.papers import paper_of, tree_of_paper
from plain_keeping import COUNTED, HASHER, ITEM, SUMMED, TAG, keeper_of, some_deeds
from plain_questions import some_question
from samples import SHOP


class Whole(unittest.TestCase):
    def test_the_answer_about_each_number_of_deeds_is_taken(self):
        dice = random.Random(1)
        for _ in range(15):
            deeds = some_deeds(dice, dice.randint(0, 20))
            keeper = keeper_of(deeds)
            asker = Asker(HASHER, SHOP, keeper.row_digest(), len(deeds) + 1)
            for number in range(len(deeds) + 1):
                state = (number, keeper.digest(number), keeper.inclusion(number))
                self.assertTrue(asker.takes_state(*state))
                for question in [ITEM, TAG, COUNTED, SUMMED] + [some_question(dice, dice.randint(0, 4)) for _ in range(3)]:
                    rows, parts = keeper.ask(question, number)
                    self.assertTrue(asker.takes(question, rows, parts, state), question)
                    self.assertTrue(asker.takes(question, rows, paper_of(keeper.tree(number)), state), question)
                    self.assertFalse(asker.takes(question, rows + [((), ())], parts, state))

    def test_an_asker_goes_along_with_a_keeper(self):
        dice = random.Random(2)
        for _ in range(10):
            keeper = Keeper(SHOP, HASHER)
            asker = Asker(HASHER, SHOP, keeper.row_digest(), 1)
            for deed in some_deeds(dice, 20):
                number = keeper.record(deed)
                if dice.random() < 0.5:
                    self.assertFalse(asker.takes(ITEM, *keeper.ask(ITEM, number), self.state(keeper, number)))
                    continue
                paper = keeper.extension(asker.size - 1)
                self.assertFalse(asker.learn(keeper.row_digest(), number, paper))
                self.assertTrue(asker.learn(keeper.row_digest(), number + 1, paper))
                self.assertEqual((asker.row, asker.size), (keeper.row_digest(), number + 1))
                for behind in range(number + 1):
                    self.assertTrue(asker.takes(ITEM, *keeper.ask(ITEM, behind), self.state(keeper, behind)))
                changes, parts = keeper.changes(number)
                self.assertTrue(asker.takes_change(keeper.digest(number - 1), keeper.digest(number), changes, parts))

    def state(self, keeper, number):
        return (number, keeper.digest(number), keeper.inclusion(number))

    def test_what_another_keeper_tells_is_not_taken(self):
        one = keeper_of([("keep", "tag", ("a",), 0, 5)])
        other = keeper_of([("keep", "tag", ("a",), 0, 6)])
        asker = Asker(HASHER, SHOP, one.row_digest(), 2)
        self.assertTrue(asker.takes(TAG, *one.ask(TAG, 1), self.state(one, 1)))
        self.assertFalse(asker.takes(TAG, *other.ask(TAG, 1), self.state(other, 1)))
        self.assertFalse(asker.takes(TAG, *other.ask(TAG, 1), self.state(one, 1)))
        self.assertFalse(asker.learn(other.row_digest(), 2, other.extension(1)))
        other.record(("keep", "tag", ("b",), 0, 6))
        self.assertFalse(asker.learn(other.row_digest(), 3, other.extension(1)))

    def test_a_taken_answer_is_true_or_shows_a_clash(self):
        dice = random.Random(3)
        clashes = 0
        for _ in range(150):
            hasher = Hasher(dice.choice([2, 3, 5]), dice.choice([1, 2, 3]))
            one, other = [keeper_of(some_deeds(dice, 4), hasher) for _ in range(2)]
            question = some_question(dice, dice.randint(0, 2))
            for number in range(5):
                rows, parts = other.ask(question, number)
                if not judge(hasher, SHOP, one.digest(number), question, rows, parts):
                    continue
                clash = find_clash(hasher, one.tree(number), tree_of_paper(hasher, parts))
                if clash is None:
                    self.assertEqual(rows, one.ask(question, number)[0])
                else:
                    clashes += 1
                    self.assertNotEqual(clash[0], clash[1])
                    self.assertEqual(hasher.digest(clash[0]), hasher.digest(clash[1]))
        self.assertGreater(clashes, 20)

    def test_a_schema_with_as_much_as_there_can_be(self):
        columns = tuple((name, "text") for name in ("a", "b", "c", "d", "eeeeeeee"))
        schema = tuple((name, columns) for name in ("a", "b", "c", "tttttttt"))
        keeper = Keeper(schema, HASHER)
        rows = [tuple(sign * 19 + " " + sign.upper() * 20 for sign in "ab~dx"), ("",) * 5, tuple("1 2 3 4 5 6 7 8 9 " * 2 for _ in columns)]
        for table, _ in schema:
            for row in rows:
                keeper.record(("keep", table, row, 0, 10000))
        asker = Asker(HASHER, schema, keeper.row_digest(), 13)
        state = (12, keeper.digest(12), keeper.inclusion(12))
        for question in [("table", "tttttttt"), ("found", "tttttttt", "eeeeeeee", ("begins", "x" * 20)),
                         ("found", "a", "c", ("word", "7")), ("join", ("table", "a"), ("table", "b"))]:
            rows, parts = keeper.ask(question, 12)
            self.assertTrue(rows)
            self.assertTrue(asker.takes(question, rows, parts, state))


if __name__ == "__main__":
    unittest.main()
