import itertools
import random
import re
import unittest

from askedthen.errors import AskError, BadWish
from askedthen.wishes import is_wish
from askedthen.wishtexts import parse_wish, show_wish
from test_wishes import RIGHT, some_wish

A, B, C = [("word", name) for name in "abc"]


def plain_place(text):
    """The index at which the tokens of a text are refused, or None, by going through them once."""
    signs = []
    begins, star = True, False
    for match in re.finditer("[a-z0-9]+|[^ ]", text, re.S):
        token, place = match.group(), match.start()
        run = re.fullmatch("[a-z0-9]+", token) is not None
        if begins or run or token in "-(":
            if len(signs) > 12 or not (run or token in "-("):
                return place
            if not run:
                signs.append(token)
            begins, star = not run, run
        elif token == "|":
            begins, star = True, False
        elif token == "*" and star:
            star = False
        elif token == ")" and "(" in signs:
            signs.pop()
            star = False
        else:
            return place
        # A clause is read to its end, and with it those of the signs "-" ahead of it.
        while not begins and signs and signs[-1] == "-":
            signs.pop()
    return len(text) if begins or signs else None


def some_text(dice, wish, within=""):
    """A text that means a wish, with brackets and blanks that need not be."""
    word, what = wish

    def blank():
        return dice.choice(["", "", " ", "  "])

    if word == "word":
        text = what
    elif word == "begins":
        text = what + blank() + "*"
    elif word == "none":
        text = "-" + blank() + some_text(dice, what, "none")
    else:
        # Two runs are one without a blank.
        joint = {"all": " ", "any": "|"}[word]
        text = (blank() + joint + blank()).join(some_text(dice, part, word) for part in what)
    needed = word == "any" and within != "" or word == "all" and within in ("none", "all")
    if needed or dice.random() < 0.15:
        text = "(" + blank() + text + blank() + ")"
    return text


class Refusing(unittest.TestCase):
    def refused(self, text, place):
        with self.assertRaises(AskError, msg=text) as caught:
            parse_wish(text)
        self.assertIs(type(caught.exception), BadWish)
        self.assertEqual(caught.exception.place, place, text)


class Parse(Refusing):
    def test_the_examples(self):
        self.assertEqual(parse_wish("mill te* -(old | new)"),
                         ("all", (("word", "mill"), ("begins", "te"),
                                  ("none", ("any", (("word", "old"), ("word", "new")))))))
        self.refused("mill |", 6)
        self.refused("a)", 1)
        self.refused("A", 0)

    def test_given_texts(self):
        for text, wish in (
            ("a", A), (" a ", A), ("(a)", A), ("((a))", A), ("( a )", A), ("a*", ("begins", "a")), ("7x", ("word", "7x")),
            ("a b", ("all", (A, B))), ("a|b", ("any", (A, B))), ("a | b c", ("any", (A, ("all", (B, C))))),
            ("a b | c", ("any", (("all", (A, B)), C))), ("(a | b) c", ("all", (("any", (A, B)), C))),
            ("a|b|c", ("any", (A, B, C))), ("(a|b)|c", ("any", (("any", (A, B)), C))),
            ("a|(b|c)", ("any", (A, ("any", (B, C))))), ("a b c", ("all", (A, B, C))),
            ("(a b) c", ("all", (("all", (A, B)), C))), ("-a", ("none", A)), ("--a", ("none", ("none", A))),
            ("- a", ("none", A)), ("-a b", ("all", (("none", A), B))), ("-(a b)", ("none", ("all", (A, B)))),
            ("-a|b", ("any", (("none", A), B))), ("-(a|b)", ("none", ("any", (A, B)))), ("-(a)", ("none", A)),
            ("a-b", ("all", (A, ("none", B)))), ("a(b)", ("all", (A, B))), ("(a)b", ("all", (A, B))),
            ("(a)(b)", ("all", (A, B))), ("a*b", ("all", (("begins", "a"), B))), ("a*b*", ("all", (("begins", "a"),
                                                                                          ("begins", "b")))),
            ("-a*", ("none", ("begins", "a"))), ("a" * 40, ("word", "a" * 40)), ("a" * 40 + "*", ("begins", "a" * 40)),
            ("a b a b a b", ("all", (A, B) * 3)), ("a|b|a|b|a|b", ("any", (A, B) * 3)),
            ("-----a", ("none", ("none", ("none", ("none", ("none", A)))))),
        ):
            self.assertEqual(parse_wish(text), wish, text)
            self.assertTrue(is_wish(wish))

    def test_a_blank_between_a_run_and_its_star(self):
        # Blanks are no tokens: the run and the star are read as without it.
        self.assertEqual(parse_wish("a *"), ("begins", "a"))
        self.assertEqual(parse_wish("a  * b"), ("all", (("begins", "a"), B)))

    def test_refused_texts(self):
        for text, place in (
            ("", 0), (" ", 1), ("    ", 4), ("|", 0), (" |", 1), ("a||b", 2), ("|a", 0), ("a|", 2), ("a | ", 4),
            ("a | | b", 4), ("*", 0), (" *", 1), ("a**", 2), ("a* *", 3), ("a|*", 2), ("(*)", 1), ("(a)*", 3),
            ("-*", 1), ("a -*", 3), (")", 0), ("a)", 1), ("()", 1), ("( )", 2), ("(a))", 3), ("(a|)", 3), ("a ()", 3),
            ("(", 1), ("(a", 2), ("(a ", 3), ("((a)", 4), ("(a|", 3), ("(a|b", 4), ("-", 1), ("- ", 2), ("a -", 3),
            ("-)", 1), ("-|a", 1), ("(-)", 2), ("a b)", 3), ("a]", 1), ("a,b", 1), ("a b A", 4), ("aB", 1),
            ("a\tb", 1), ("a\n", 1), ("\n", 0), ("a_b", 1), ("caf\u00e9", 3), ("\u0663", 0), ("a +b", 2), ("a/b", 1),
            ("a\u00a0b", 1), ("'a'", 0), ("-A", 1), ("(A)", 1), ("a|A", 2), ("a* A", 3), ("a\x00", 1), ("%", 0),
        ):
            self.refused(text, place)
            self.assertEqual(plain_place(text), place, text)

    def test_every_other_character(self):
        for code in list(range(300)) + [0x2028, 0xff41, 0x1d7d8]:
            sign = chr(code)
            if not re.fullmatch("[a-z0-9 ()|*-]", sign):
                self.refused(sign, 0)
                self.refused("ab " + sign, 3)
                self.refused("(ab" + sign + "c)", 3)

    def test_open_signs(self):
        self.assertEqual(parse_wish("(" * 12 + "a" + ")" * 12), A)
        self.refused("(" * 13 + "a" + ")" * 13, 13)
        self.refused("(" * 13 + ")", 13)
        self.refused("(" * 13, 13)
        self.refused("(" * 14, 13)
        self.refused("(" * 40, 13)
        self.refused("-" * 13 + "a", 13)
        self.refused("-" * 14 + "a", 13)
        self.refused(" ( -" * 6 + " ( a", 27)
        self.refused("(-" * 6 + "-a" + ")" * 6, 13)
        # With 12 signs the text can be read, though what it means is too deep.
        self.refused("-" * 12 + "a", 13)
        self.refused("(-" * 6 + "a" + ")" * 6, 19)
        self.assertEqual(parse_wish("((-" * 4 + "a" + "))" * 4), ("none", ("none", ("none", ("none", A)))))
        self.refused("((-" * 4 + "-a" + "))" * 4, 13)

    def test_signs_that_are_not_open_any_more(self):
        # A sign "-" is open until its clause is read to its end, a bracket until it is closed.
        self.assertEqual(parse_wish("(" * 11 + "-a b" + ")" * 11), ("all", (("none", A), B)))
        self.assertEqual(parse_wish("(" * 11 + "-a* b" + ")" * 11), ("all", (("none", ("begins", "a")), B)))
        self.assertEqual(parse_wish("(" * 11 + "(a) (b)" + ")" * 11), ("all", (A, B)))
        self.assertEqual(parse_wish("(" * 11 + "(a)|-b" + ")" * 11), ("any", (A, ("none", B))))
        self.assertEqual(parse_wish("(" * 12 + "a b|c" + ")" * 12), ("any", (("all", (A, B)), C)))
        self.assertEqual(parse_wish("-(" * 3 + "a" + ")" * 3 + "(" * 12 + "b" + ")" * 12),
                         ("all", (("none", ("none", ("none", A))), B)))
        self.refused("(" * 12 + "a -b", 15)
        self.refused("(" * 12 + "a (b", 15)
        self.refused("(" * 12 + "a | -b", 17)

    def test_what_is_meant_is_no_wish(self):
        for text in ("a" * 41, "a" * 41 + "*", "a " * 7, "a|" * 6 + "a", "------a", "a (b (c (a | (b -(c (a b))))))",
                     "-(" + "a" * 41 + ") b", "(a b c a b c a) | b", "x | " + "b" * 41 + " "):
            self.assertIsNone(plain_place(text))
            self.refused(text, len(text))
        self.assertEqual(parse_wish("a " * 6), ("all", (A,) * 6))

    def test_a_token_is_told_ahead_of_what_is_meant(self):
        self.refused("a" * 41 + ")", 41)
        self.refused("a " * 7 + "A", 14)
        self.refused("-------a |", 10)
        self.refused("a" * 41 + " (", 43)

    def test_every_short_text(self):
        for size in range(6):
            for signs in itertools.product("a |*()-", repeat=size):
                text = "".join(signs)
                place = plain_place(text)
                if place is None:
                    self.assertTrue(is_wish(parse_wish(text)))
                else:
                    self.refused(text, place)

    def test_random_texts(self):
        seen = {True: 0, False: 0}
        for seed in range(20000):
            dice = random.Random(seed)
            signs = dice.choice(["ab |*()-", "a(-", "a(-)", "aaa|  (-A", "ab7* -"])
            text = "".join(dice.choice(signs) for _ in range(dice.randint(6, 40)))
            place = plain_place(text)
            seen[place is None] += 1
            if place is not None:
                self.refused(text, place)
                continue
            try:
                self.assertTrue(is_wish(parse_wish(text)))
            except BadWish as error:
                self.assertEqual(error.place, len(text))
        self.assertGreater(min(seen.values()), 500)


class Show(unittest.TestCase):
    def test_given_wishes(self):
        not_a, any_ab, all_ab = ("none", A), ("any", (A, B)), ("all", (A, B))
        for wish, text in (
            (A, "a"), (("begins", "te"), "te*"), (not_a, "-a"), (("none", not_a), "--a"), (("none", ("begins", "a")), "-a*"),
            (all_ab, "a b"), (any_ab, "a | b"), (("none", all_ab), "-(a b)"), (("none", any_ab), "-(a | b)"),
            (("all", (all_ab, C)), "(a b) c"), (("all", (C, any_ab)), "c (a | b)"), (("all", (not_a, C)), "-a c"),
            (("any", (all_ab, C)), "a b | c"), (("any", (C, any_ab)), "c | (a | b)"), (("any", (not_a, C)), "-a | c"),
            (("any", (("none", all_ab), ("all", (C, any_ab)))), "-(a b) | c (a | b)"),
            (("all", (("begins", "x"), ("none", any_ab), ("all", (any_ab, A)))), "x* -(a | b) ((a | b) a)"),
            (("all", (A,) * 6), "a a a a a a"), (("any", (A,) * 6), "a | a | a | a | a | a"),
        ):
            self.assertEqual(show_wish(wish), text)
            self.assertEqual(parse_wish(text), wish)

    def test_shown_texts_are_read_as_the_same_wish(self):
        for wish in RIGHT + [some_wish(random.Random(seed), seed % 6 + 1) for seed in range(1500)]:
            self.assertTrue(is_wish(wish))
            self.assertEqual(parse_wish(show_wish(wish)), wish)

    def test_other_texts_are_read_as_the_same_wish(self):
        for seed in range(3000):
            dice = random.Random(seed)
            wish = some_wish(dice, dice.randint(1, 4))
            text = some_text(dice, wish)
            if plain_place(text) is None:
                self.assertEqual(parse_wish(text), wish, text)
                self.assertEqual(parse_wish("  " + text.replace("(", " ( ").replace("|", " |  ") + " "), wish)
            self.assertEqual(parse_wish(show_wish(wish).replace(" ", "   ")), wish)

    def test_the_deepest_wishes(self):
        wish = A
        for kind in ("any", "none", "any", "none", "any"):
            wish = ("none", wish) if kind == "none" else ("any", (wish, wish))
            self.assertEqual(parse_wish(show_wish(wish)), wish)

    def test_somewhat_beyond_the_limits(self):
        wish = A
        for _ in range(9):
            wish = ("none", wish)
        self.assertEqual(show_wish(wish), "---------a")
        self.assertEqual(show_wish(("all", (A,) * 8)), "a a a a a a a a")


if __name__ == "__main__":
    unittest.main()
