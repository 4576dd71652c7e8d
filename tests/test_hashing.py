import random
import unittest

from askedthen.errors import AskError, InvalidArgument
from askedthen.hashing import Hasher
from plain_trees import plain_digest
from samples import ODD, Same, Sour

MOST = 2 ** 31 - 1
ODD_NUMBERS = ODD + ["", "7", (), (7,), -1, -7, MOST + 1, 10 ** 30, -10 ** 30, 7.0, Same(), Sour()]


class Making(unittest.TestCase):
    def refused(self, modulus, multiplier, name):
        with self.assertRaises(AskError) as caught:
            Hasher(modulus, multiplier)
        self.assertIs(type(caught.exception), InvalidArgument)
        self.assertEqual(caught.exception.name, name)

    def test_bounds(self):
        for modulus in (2, 3, 1000, MOST - 1, MOST):
            for multiplier in (1, 2, 1000, MOST - 1, MOST):
                hasher = Hasher(modulus, multiplier)
                self.assertEqual((hasher.modulus, hasher.multiplier), (modulus, multiplier))
                self.assertEqual(vars(hasher)["modulus"], modulus)
                self.assertEqual(vars(hasher)["multiplier"], multiplier)

    def test_wrong_moduli(self):
        for modulus in ODD_NUMBERS + [0, 1]:
            self.refused(modulus, 1, "modulus")

    def test_wrong_multipliers(self):
        for multiplier in ODD_NUMBERS + [0]:
            self.refused(2, multiplier, "multiplier")
            self.refused(MOST, multiplier, "multiplier")

    def test_the_modulus_is_looked_at_first(self):
        for modulus in (1, MOST + 1, None, True):
            for multiplier in (0, MOST + 1, None, "3"):
                self.refused(modulus, multiplier, "modulus")


class Digests(unittest.TestCase):
    def test_the_example(self):
        self.assertEqual(Hasher(1000, 10).digest([1, 2]), 23)

    def test_given_lists(self):
        hasher = Hasher(1000, 10)
        for numbers, expected in (
            ([], 0), ([0], 1), ([0, 0], 11), ([0, 0, 0], 111), ([0, 0, 0, 0], 111), ([999], 0),
            ([998], 999), ([999, 5], 6), ([10 ** 30], 1), ([2 ** 31], 649),
        ):
            self.assertEqual(hasher.digest(numbers), expected, numbers)

    def test_a_list_and_a_longer_one_differ(self):
        hasher = Hasher(MOST, 1000003)
        self.assertEqual(len({hasher.digest([0] * count) for count in range(200)}), 200)

    def test_against_a_plain_reckoning(self):
        dice = random.Random(1)
        for modulus in (2, 3, 10, 97, 65536, MOST - 1, MOST):
            for multiplier in (1, 2, 31, 65537, MOST):
                hasher = Hasher(modulus, multiplier)
                for size in (0, 1, 2, 3, 10, 300):
                    numbers = [dice.choice([0, 1, 255, 9999, MOST, MOST + 1, 10 ** 20, dice.randint(0, 10 ** 6)])
                               for _ in range(size)]
                    found = hasher.digest(numbers)
                    self.assertEqual(found, plain_digest(hasher, numbers))
                    self.assertIs(type(found), int)
                    self.assertTrue(0 <= found < modulus)

    def test_a_long_list(self):
        hasher = Hasher(MOST, 1000003)
        numbers = list(range(20000))
        self.assertEqual(hasher.digest(numbers), plain_digest(hasher, numbers))

    def test_the_list_handed_in_stays(self):
        numbers = [3, 1, 2]
        hasher = Hasher(1000, 10)
        first = hasher.digest(numbers)
        self.assertEqual(numbers, [3, 1, 2])
        self.assertEqual(hasher.digest(numbers), first)
        numbers.append(5)
        self.assertEqual(hasher.digest([3, 1, 2]), first)


if __name__ == "__main__":
    unittest.main()
