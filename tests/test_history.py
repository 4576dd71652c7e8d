import random
import unittest

from askedthen.answering import rows_on
from askedthen.daily import meaning
from askedthen.errors import BadQuestion, InvalidArgument
from askedthen.history import turns
from askedthen.spans import holds
from plain_keeping import BAD, COUNTED, DEEDS, ITEM, PRICE, SUMMED, TAG, keeper_of, known_behind, some_deeds
from plain_questions import some_question
from samples import ODD, SHOP

OLD, TEA = ("Old mill", 300, "old"), ("Tea", 20, "Old tea")


class Turns(unittest.TestCase):
    def test_turns(self):
        keeper = keeper_of(DEEDS + [DEEDS[0]])
        for question, row, day, numbers in [
            (ITEM, OLD, 0, [1]), (ITEM, OLD, 9, [1]), (ITEM, OLD, 10, [1, 5, 9]), (ITEM, OLD, 19, [1, 5, 9]),
            (ITEM, OLD, 20, [1, 7, 9]), (ITEM, OLD, 50, []), (ITEM, TEA, 9, []), (ITEM, TEA, 14, [3]), (ITEM, TEA, 15, [3, 7]),
            (ITEM, TEA, 30, [3]), (ITEM, TEA, 9999, [3]), (TAG, ("Tea",), 12, [2, 8]), (TAG, ("Tea",), 20, []),
            (TAG, ("tea",), 12, []), (TAG, ("Tea", "Tea"), 12, []), (TAG, (), 12, []), (PRICE, (300,), 9999, [6]),
            (PRICE, (300,), 9998, []), (("keep", ITEM, ("price",)), (300,), 10, [1, 5, 9]),
            (("found", "item", "note", ("word", "old")), TEA, 15, [3, 7]), (("join", ITEM, PRICE), OLD, 20, []),
        ]:
            found = turns(keeper, SHOP, question, row, day)
            self.assertIsInstance(found, list)
            self.assertEqual(found, numbers, (question, row, day))

    def test_count_and_sum_without_names(self):
        keeper = keeper_of(DEEDS)
        self.assertEqual(turns(keeper, SHOP, COUNTED, (0,), 12), [0, 2, 8])
        self.assertEqual(turns(keeper, SHOP, COUNTED, (1,), 12), [2, 8])
        self.assertEqual(turns(keeper, SHOP, COUNTED, (0,), 9), [0])
        self.assertEqual(turns(keeper, SHOP, COUNTED, (1,), 9), [])
        self.assertEqual(turns(keeper, SHOP, SUMMED, (0,), 12), [0, 1])
        self.assertEqual(turns(keeper, SHOP, SUMMED, (0,), 15), [0, 1, 7])
        self.assertEqual(turns(keeper, SHOP, SUMMED, (320,), 12), [3, 5])
        self.assertEqual(turns(keeper, SHOP, ("count", TAG, ("name",)), ("Tea", 1), 12), [2, 8])
        self.assertEqual(turns(keeper, SHOP, ("count", TAG, ("name",)), ("Tea", 0), 12), [])

    def test_without_deeds(self):
        keeper = keeper_of([])
        self.assertEqual(turns(keeper, SHOP, ITEM, OLD, 0), [])
        self.assertEqual(turns(keeper, SHOP, COUNTED, (0,), 0), [0])
        self.assertEqual(turns(keeper, SHOP, COUNTED, (0,), 9999), [0])
        self.assertEqual(turns(keeper, SHOP, COUNTED, (1,), 0), [])

    def test_many(self):
        dice = random.Random(39)
        turned = 0
        for _ in range(90):
            deeds = some_deeds(dice, dice.randint(0, 20))
            keeper = keeper_of(deeds)
            question = some_question(dice, dice.randint(0, 2))
            rows = [row for number in range(len(deeds) + 1) for row, _ in keeper.ask(question, number)[0]]
            for row in dice.sample(rows, min(3, len(rows))) + [(7, 7, 7)]:
                for day in (0, 1, 9, 9998, 9999):
                    contained = []
                    for number in range(len(deeds) + 1):
                        known = known_behind(deeds[:number])
                        tables = {name: [one for one, spans in known.rows(name) if holds(spans, day)] for name, _ in SHOP}
                        contained.append(row in meaning(question, SHOP, tables))
                        self.assertEqual(row in rows_on(keeper.ask(question, number)[0], day), contained[-1])
                    plain = [number for number, there in enumerate(contained) if there != (number > 0 and contained[number - 1])]
                    self.assertEqual(turns(keeper, SHOP, question, row, day), plain)
                    turned += len(plain) > 1
        self.assertGreater(turned, 20)

    def test_days_that_are_none(self):
        keeper = keeper_of(DEEDS)
        for day in ODD + [-1, 10000, "0", "", (), 10 ** 9]:
            for question in [ITEM, COUNTED] + [bad for bad, _ in BAD]:
                with self.assertRaises(InvalidArgument) as caught:
                    turns(keeper, SHOP, question, OLD, day)
                self.assertEqual(caught.exception.name, "day")

    def test_bad_questions(self):
        for deeds in ([], DEEDS):
            for question, reason in BAD:
                with self.assertRaises(BadQuestion) as caught:
                    turns(keeper_of(deeds), SHOP, question, OLD, 0)
                self.assertEqual(caught.exception.reason, reason)

    def test_nothing_is_changed(self):
        keeper = keeper_of(DEEDS)
        before = (keeper.deeds(), keeper.row_digest())
        found = turns(keeper, SHOP, COUNTED, (0,), 12)
        found.append(7)
        self.assertEqual(turns(keeper, SHOP, COUNTED, (0,), 12), [0, 2, 8])
        self.assertEqual((keeper.deeds(), keeper.row_digest()), before)


if __name__ == "__main__":
    unittest.main()
