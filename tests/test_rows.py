import itertools
import random
import unittest

from askedthen.errors import AskError, InvalidArgument
from askedthen.hashing import Hasher
from askedthen.rows import (DigestRow, extended_digests, extension, find_extension_clash, find_row_clash,
                            included_digest, inclusion, row_digest)
from plain_trees import plain_digest
from samples import ODD, Same, Sour

HASHER = Hasher(2 ** 31 - 1, 1000003)
MOST = 40


def some_row(seed, count, most=2 ** 31):
    dice = random.Random(seed)
    return [dice.randrange(most) for _ in range(count)]


def plain_half(count):
    return max(2 ** power for power in range(10) if 2 ** power < count)


def plain_inputs(hasher, digests):
    """The inputs of all parts, that of the whole first."""
    if len(digests) == 1:
        return [[4, digests[0]]]
    half = plain_half(len(digests))
    left, right = plain_inputs(hasher, digests[:half]), plain_inputs(hasher, digests[half:])
    return [[5, plain_digest(hasher, left[0]), plain_digest(hasher, right[0])]] + left + right


def plain_part(hasher, digests):
    return plain_digest(hasher, plain_inputs(hasher, digests)[0])


def plain_row_input(hasher, digests):
    return [6, len(digests), plain_part(hasher, digests)]


def plain_inclusion(hasher, digests, place):
    if len(digests) == 1:
        return []
    half = plain_half(len(digests))
    left, right = digests[:half], digests[half:]
    if place < half:
        return plain_inclusion(hasher, left, place) + [plain_part(hasher, right)]
    return plain_inclusion(hasher, right, place - half) + [plain_part(hasher, left)]


def plain_extension(hasher, digests, size):
    if len(digests) == size:
        return [plain_part(hasher, digests)]
    half = plain_half(len(digests))
    left, right = digests[:half], digests[half:]
    if size > half:
        return plain_extension(hasher, right, size - half) + [plain_part(hasher, left)]
    return plain_extension(hasher, left, size) + [plain_part(hasher, right)]


def row_inputs(hasher, digests):
    return [plain_row_input(hasher, digests)] + plain_inputs(hasher, digests)


class Digests(unittest.TestCase):
    def test_against_a_plain_reckoning(self):
        for hasher in (HASHER, Hasher(1000, 10), Hasher(3, 2)):
            row = DigestRow(hasher)
            digests = []
            for digest in some_row(1, MOST):
                digests.append(digest)
                expected = plain_digest(hasher, plain_row_input(hasher, digests))
                self.assertEqual(row_digest(hasher, digests), expected)
                self.assertEqual(row.append(digest), expected)
                self.assertEqual(row.digest(), expected)
                self.assertEqual(row.digest(), expected)

    def test_given_rows(self):
        hasher = Hasher(1000, 10)
        # [4, 7] has the digest 58, [4, 8] 59, [5, 58, 59] 250, [6, 1, 58] 779, and [6, 2, 250] 981.
        both = 250
        self.assertEqual(row_digest(hasher, [7]), 779)
        self.assertEqual(row_digest(hasher, [7, 8]), 981)
        self.assertEqual(row_digest(hasher, [7, 8, 7]), hasher.digest([6, 3, hasher.digest([5, both, 58])]))
        four = hasher.digest([5, both, both])
        self.assertEqual(row_digest(hasher, [7, 8, 7, 8]), hasher.digest([6, 4, four]))
        self.assertEqual(row_digest(hasher, [7, 8, 7, 8, 7]), hasher.digest([6, 5, hasher.digest([5, four, 58])]))

    def test_what_is_handed_in_stays(self):
        digests = some_row(2, 9)
        given = list(digests)
        row_digest(HASHER, digests)
        inclusion(HASHER, digests, 3).append(1)
        extension(HASHER, digests, 3).append(1)
        for find in (inclusion, extension):
            for number in range(1, 9):
                find(HASHER, digests, number).clear()
        self.assertEqual(digests, given)
        paper = inclusion(HASHER, digests, 3)
        given_paper = list(paper)
        included_digest(HASHER, 9, 3, digests[3], paper)
        find_row_clash(HASHER, digests, 3, digests[3], paper)
        self.assertEqual((digests, paper), (given, given_paper))
        paper = extension(HASHER, digests, 6)
        old = digests[:6]
        given_paper = list(paper)
        extended_digests(HASHER, 6, 9, paper)
        find_extension_clash(HASHER, old, digests, paper)
        self.assertEqual((digests, paper, old), (given, given_paper, given[:6]))

    def test_papers_of_a_growing_row_are_the_callers(self):
        row = DigestRow(HASHER)
        for digest in some_row(2, 9):
            row.append(digest)
        before = row.digest()
        for number in range(1, 9):
            row.inclusion(number).clear()
            row.extension(number).clear()
            self.assertEqual(row.inclusion(number), inclusion(HASHER, some_row(2, 9), number))
        row.extension(9).append(4)
        self.assertEqual(row.extension(9), [plain_part(HASHER, some_row(2, 9))])
        self.assertEqual(row.digest(), before)


class Places(unittest.TestCase):
    def test_the_example(self):
        digests = some_row(3, 3)
        self.assertEqual(inclusion(HASHER, digests, 2), [plain_part(HASHER, digests[:2])])

    def test_each_place(self):
        for count in range(1, MOST + 1):
            digests = some_row(count, count)
            row = DigestRow(HASHER)
            for digest in digests:
                row.append(digest)
            for place in range(count):
                paper = inclusion(HASHER, digests, place)
                self.assertIs(type(paper), list)
                self.assertEqual(paper, plain_inclusion(HASHER, digests, place))
                self.assertEqual(row.inclusion(place), paper)
                self.assertEqual(included_digest(HASHER, count, place, digests[place], paper),
                                 row_digest(HASHER, digests))

    def test_a_row_of_one_digest(self):
        self.assertEqual(inclusion(HASHER, [7], 0), [])
        self.assertEqual(included_digest(HASHER, 1, 0, 7, []), row_digest(HASHER, [7]))
        self.assertIsNone(included_digest(HASHER, 1, 0, 7, [7]))

    def test_papers_of_other_lengths(self):
        for count in range(1, MOST + 1):
            digests = some_row(count, count)
            for place in range(count):
                paper = inclusion(HASHER, digests, place)
                for other in (paper[:-1], paper[1:], [], paper + [0], [0] + paper, paper + paper):
                    if len(other) != len(paper):
                        self.assertIsNone(included_digest(HASHER, count, place, digests[place], other))

    def test_other_papers_lead_elsewhere(self):
        digests = some_row(7, 11)
        for place in range(11):
            paper = inclusion(HASHER, digests, place)
            self.assertNotEqual(included_digest(HASHER, 11, place, digests[place] + 1, paper),
                                row_digest(HASHER, digests))
            for at in range(len(paper)):
                other = paper[:at] + [paper[at] + 1] + paper[at + 1:]
                self.assertNotEqual(included_digest(HASHER, 11, place, digests[place], other),
                                    row_digest(HASHER, digests))

    def test_just_the_numbers_told_are_joined(self):
        def join(left, right):
            return HASHER.digest([5, left, right])

        leaf = HASHER.digest([4, 9])
        for size, place, paper, part in (
            (2, 0, [1], join(leaf, 1)), (2, 1, [1], join(1, leaf)), (3, 2, [1], join(1, leaf)),
            (3, 0, [1, 2], join(join(leaf, 1), 2)), (3, 1, [1, 2], join(join(1, leaf), 2)),
            (5, 3, [1, 2, 3], join(join(2, join(1, leaf)), 3)), (5, 4, [1], join(1, leaf)),
            (7, 5, [1, 2, 3], join(3, join(join(1, leaf), 2))),
        ):
            self.assertEqual(included_digest(HASHER, size, place, 9, paper), HASHER.digest([6, size, part]))


class Beginnings(unittest.TestCase):
    def test_each_size(self):
        for count in range(1, MOST + 1):
            digests = some_row(count, count)
            row = DigestRow(HASHER)
            for digest in digests:
                row.append(digest)
            for size in range(1, count + 1):
                paper = extension(HASHER, digests, size)
                self.assertIs(type(paper), list)
                self.assertEqual(paper, plain_extension(HASHER, digests, size))
                self.assertEqual(row.extension(size), paper)
                found = extended_digests(HASHER, size, count, paper)
                self.assertIs(type(found), tuple)
                self.assertEqual(found, (row_digest(HASHER, digests[:size]), row_digest(HASHER, digests)))

    def test_the_whole_row(self):
        for count in range(1, MOST + 1):
            digests = some_row(count, count)
            self.assertEqual(extension(HASHER, digests, count), [plain_part(HASHER, digests)])
            self.assertEqual(extended_digests(HASHER, count, count, [7]), (HASHER.digest([6, count, 7]),) * 2)

    def test_papers_of_other_lengths(self):
        for count in range(1, MOST + 1):
            digests = some_row(count, count)
            for size in range(1, count + 1):
                paper = extension(HASHER, digests, size)
                for other in (paper[:-1], paper[1:], [], paper + [0], [0] + paper, paper + paper):
                    if len(other) != len(paper):
                        self.assertIsNone(extended_digests(HASHER, size, count, other))

    def test_just_the_numbers_told_are_joined(self):
        def join(left, right):
            return HASHER.digest([5, left, right])

        for old, size, paper, older, newer in (
            (1, 2, [1, 2], 1, join(1, 2)), (2, 3, [1, 2], 1, join(1, 2)),
            (3, 4, [1, 2, 3], join(3, 1), join(3, join(1, 2))),
            (3, 7, [1, 2, 3, 4], join(3, 1), join(join(3, join(1, 2)), 4)),
            (6, 8, [1, 2, 3], join(3, 1), join(3, join(1, 2))),
            (5, 6, [1, 2, 3], join(3, 1), join(3, join(1, 2))),
            (4, 5, [1, 2], 1, join(1, 2)),
        ):
            self.assertEqual(extended_digests(HASHER, old, size, paper),
                             (HASHER.digest([6, old, older]), HASHER.digest([6, size, newer])), (old, size))


class Bounds(unittest.TestCase):
    def refused(self, call, value, name):
        with self.assertRaises(AskError) as caught:
            call(value)
        self.assertIs(type(caught.exception), InvalidArgument)
        self.assertEqual(caught.exception.name, name)

    def test_places_and_sizes(self):
        for count in range(1, 12):
            row = DigestRow(HASHER)
            for digest in some_row(count, count):
                row.append(digest)
            before = row.digest()
            for value in ODD + [-1, -count, 10 ** 30, "", "0", (), (0,), Same(), Sour()]:
                self.refused(row.inclusion, value, "place")
                self.refused(row.extension, value, "size")
            self.refused(row.inclusion, count, "place")
            self.refused(row.inclusion, count + 1, "place")
            self.refused(row.extension, 0, "size")
            self.refused(row.extension, count + 1, "size")
            row.inclusion(0)
            row.inclusion(count - 1)
            row.extension(1)
            row.extension(count)
            self.assertEqual(row.digest(), before)
            self.assertEqual(row.append(5), row_digest(HASHER, some_row(count, count) + [5]))

    def test_a_row_without_digests(self):
        row = DigestRow(HASHER)
        for value in (-1, 0, 1, True, None):
            self.refused(row.inclusion, value, "place")
            self.refused(row.extension, value, "size")
        self.assertEqual(row.append(3), row_digest(HASHER, [3]))

    def test_rows_are_apart(self):
        one, other = DigestRow(HASHER), DigestRow(HASHER)
        one.append(1)
        other.append(2)
        self.assertEqual((one.digest(), other.digest()), (row_digest(HASHER, [1]), row_digest(HASHER, [2])))

    def test_beyond_the_limits_no_error_is_raised(self):
        digests = some_row(5, 5)
        for number in (-1, 0, 5, 6, 7):
            inclusion(HASHER, digests, number)
            extension(HASHER, digests, number)
            included_digest(HASHER, 5, number, 1, [1, 2])
            extended_digests(HASHER, number, 5, [1, 2])
            find_row_clash(HASHER, digests, number, 1, [1])
            find_extension_clash(HASHER, digests + [1] * number, digests, [1])


class Clashes(unittest.TestCase):
    def check(self, hasher, clash, own, told):
        self.assertIs(type(clash), tuple)
        one, other = clash
        self.assertNotEqual(one, other)
        self.assertIs(type(one), list)
        self.assertIs(type(other), list)
        self.assertEqual(plain_digest(hasher, one), plain_digest(hasher, other))
        self.assertIn(one, own)
        self.assertIn(other, told)

    def told_inputs(self, hasher, size, turns, inputs, digest, paper):
        """The inputs that a paper tells, where turns are told from the last one to the first."""
        for right, beside in zip(turns, paper):
            inputs.append([5, beside, digest] if right else [5, digest, beside])
            digest = plain_digest(hasher, inputs[-1])
        return inputs + [[6, size, digest]]

    def place_inputs(self, hasher, size, place, digest, paper):
        turns = []
        while size > 1:
            half = plain_half(size)
            turns.insert(0, place >= half)
            place, size = (place - half, size - half) if place >= half else (place, half)
        return turns, [[4, digest]], plain_digest(hasher, [4, digest])

    def test_papers_that_lead_to_the_digest_of_a_row(self):
        seen = {}
        for seed in range(4000):
            dice = random.Random(seed)
            hasher = Hasher(dice.choice([2, 3, 5]), dice.choice([1, 2, 3, 4]))
            digests = some_row(seed, dice.randint(1, 9), 9)
            place = dice.randrange(len(digests))
            paper = inclusion(hasher, digests, place)
            digest = dice.choice([digests[place], dice.randrange(9), dice.randrange(9)])
            if dice.random() < 0.7:
                paper = [dice.choice([number, dice.randrange(9)]) for number in paper]
            clash = find_row_clash(hasher, digests, place, digest, paper)
            leads = included_digest(hasher, len(digests), place, digest, paper) == row_digest(hasher, digests)
            seen[leads, digest == digests[place], clash is None] = True
            if not leads or (digest == digests[place] and paper == inclusion(hasher, digests, place)):
                self.assertIsNone(clash)
            elif digest != digests[place]:
                self.assertIsNotNone(clash)
            if clash is not None:
                turns, inputs, told = self.place_inputs(hasher, len(digests), place, digest, paper)
                self.check(hasher, clash, row_inputs(hasher, digests),
                           self.told_inputs(hasher, len(digests), turns, inputs, told, paper))
        self.assertIn((True, False, False), seen)
        self.assertIn((True, True, True), seen)
        self.assertIn((True, True, False), seen)
        self.assertIn((False, False, True), seen)
        self.assertNotIn((True, False, True), seen)

    def test_own_papers(self):
        for hasher in (HASHER, Hasher(2, 1), Hasher(7, 3)):
            for count in range(1, 20):
                digests = some_row(count, count, 9)
                for place in range(count):
                    paper = inclusion(hasher, digests, place)
                    self.assertIsNone(find_row_clash(hasher, digests, place, digests[place], paper))
                    paper = extension(hasher, digests, place + 1)
                    self.assertIsNone(find_extension_clash(hasher, digests[:place + 1], digests, paper))

    def test_papers_that_lead_elsewhere(self):
        for count in range(1, 12):
            digests = some_row(count, count)
            for place in range(count):
                paper = inclusion(HASHER, digests, place)
                self.assertIsNone(find_row_clash(HASHER, digests, place, digests[place] + 1, paper))
                self.assertIsNone(find_row_clash(HASHER, digests, place, digests[place], [n + 1 for n in paper] + [1]))
                old = digests[:place] + [digests[place] + 1]
                paper = extension(HASHER, digests, place + 1)
                self.assertIsNone(find_extension_clash(HASHER, old, digests, paper))
                self.assertIsNone(find_extension_clash(HASHER, digests[:place + 1], digests, paper + [1]))
                self.assertIsNone(find_extension_clash(HASHER, digests[:place + 1], digests, paper[1:]))

    def extension_inputs(self, hasher, old, size, paper):
        """All inputs that an extension paper tells."""
        turns, least, most = [], old, size
        while least < most:
            half = plain_half(most)
            turns.insert(0, least > half)
            least, most = (least - half, most - half) if least > half else (least, half)
        beside = [number for right, number in zip(turns, paper[1:]) if right]
        return (self.told_inputs(hasher, size, turns, [], paper[0], paper[1:])
                + self.told_inputs(hasher, old, [True] * len(beside), [], paper[0], beside))

    def test_papers_that_lead_to_the_digests_of_two_rows(self):
        seen = {}
        for seed in range(6000):
            dice = random.Random(seed)
            hasher = Hasher(dice.choice([2, 3, 5]), dice.choice([1, 2, 3, 4]))
            new = some_row(seed, dice.randint(1, 9), 9)
            size = dice.randint(1, len(new))
            old = [dice.choice([digest, digest, digest + hasher.modulus, dice.randrange(9)]) for digest in new[:size]]
            paper = extension(hasher, new, size)
            if dice.random() < 0.6:
                paper = [dice.choice([number, dice.randrange(9)]) for number in paper]
            clash = find_extension_clash(hasher, old, new, paper)
            leads = (extended_digests(hasher, size, len(new), paper)
                     == (row_digest(hasher, old), row_digest(hasher, new)))
            begins, own = old == new[:size], paper == extension(hasher, new, size)
            seen[leads, begins, clash is None] = True
            if not leads or (begins and own):
                self.assertIsNone(clash)
            elif not begins:
                self.assertIsNotNone(clash)
            if clash is not None:
                rows = row_inputs(hasher, old) + row_inputs(hasher, new)
                self.check(hasher, clash, rows, rows + self.extension_inputs(hasher, size, len(new), paper))
        self.assertIn((True, False, False), seen)
        self.assertIn((True, True, True), seen)
        self.assertIn((True, True, False), seen)
        self.assertIn((False, False, True), seen)
        self.assertNotIn((True, False, True), seen)

    def test_rows_that_differ_in_a_digest_that_no_paper_tells(self):
        hasher = Hasher(11, 4)
        for count, size in itertools.combinations_with_replacement(range(1, 14), 2):
            new = some_row(size, size, 11)
            for place in range(count):
                old = new[:place] + [new[place] + 11] + new[place + 1:count]
                clash = find_extension_clash(hasher, old, new, extension(hasher, new, count))
                self.assertEqual(clash, ([4, old[place]], [4, new[place]]), (count, size, place))


if __name__ == "__main__":
    unittest.main()
