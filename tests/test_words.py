import random
import re
import unittest

from askedthen.words import all_words, is_word, words_of
from samples import ODD

PRINTED = "".join(chr(code) for code in range(32, 127))


def plain_words(text):
    return [run.lower() for run in re.findall("[A-Za-z0-9]+", text)]


class Words(unittest.TestCase):
    def test_given_texts(self):
        for text, expected in (
            ("", []), (" ", []), ("-- !", []), ("mill", ["mill"]), ("Old Mill", ["old", "mill"]),
            (" a  b ", ["a", "b"]), ("a-b_c", ["a", "b", "c"]), ("Mill7 77", ["mill7", "77"]),
            ("it's", ["it", "s"]), ("ABCxyz09", ["abcxyz09"]), ("a a A", ["a", "a", "a"]),
            ("~a~", ["a"]), ("x" * 40, ["x" * 40]),
        ):
            self.assertEqual(all_words(text), expected, text)
            self.assertIs(type(all_words(text)), list)

    def test_every_character(self):
        for sign in PRINTED:
            if re.fullmatch("[A-Za-z0-9]", sign):
                self.assertEqual(all_words("a" + sign + "b"), ["a" + sign.lower() + "b"])
            else:
                self.assertEqual(all_words("a" + sign + "b"), ["a", "b"])
                self.assertEqual(all_words(sign), [])
        self.assertEqual(all_words(PRINTED), plain_words(PRINTED))

    def test_other_characters_are_no_part_of_a_word(self):
        # The Kelvin sign becomes the letter k as a small letter.
        self.assertEqual(all_words("a\u212ab\u00e9c\u0663d"), ["a", "b", "c", "d"])

    def test_random_texts(self):
        dice = random.Random(3)
        for _ in range(2000):
            signs = dice.choice([PRINTED, "aB1 -", "aA ", "xX0.~"])
            text = "".join(dice.choice(signs) for _ in range(dice.randint(0, 40)))
            words = plain_words(text)
            self.assertEqual(all_words(text), words, text)
            found = words_of(text)
            self.assertIs(type(found), tuple)
            self.assertEqual(list(found), sorted(set(words), key=words.index), text)
            self.assertTrue(all(is_word(word) for word in found))

    def test_words_of(self):
        self.assertEqual(words_of(""), ())
        self.assertEqual(words_of("..."), ())
        self.assertEqual(words_of("b a B c a"), ("b", "a", "c"))
        self.assertEqual(words_of("ab a b"), ("ab", "a", "b"))

    def test_what_is_returned_is_the_callers(self):
        all_words("old mill").clear()
        self.assertEqual(all_words("old mill"), ["old", "mill"])


class IsWord(unittest.TestCase):
    def test_words(self):
        for value in ("a", "z", "0", "9", "mill", "7", "a1b2", "x" * 40, "x" * 41, "9a" * 5000):
            self.assertIs(is_word(value), True)

    def test_characters(self):
        for code in list(range(300)) + [0x0663, 0x212a, 0xff11]:
            expected = 48 <= code <= 57 or 97 <= code <= 122
            for text in (chr(code), "ab" + chr(code), chr(code) + "ab"):
                self.assertIs(is_word(text), expected, code)

    def test_no_words(self):
        for value in ODD + ["", " ", "a b", "A", "aB", "a-b", "a\n", 0, 7, (), ("a",), b"a", ["a"]]:
            self.assertIs(is_word(value), False, repr(type(value)))


if __name__ == "__main__":
    unittest.main()
