import itertools
import random
import unittest

from askedthen.octets import (are_key_octets, body, first_bit, has_bit, is_key, key_octets, range_of,
                              range_of_key, range_of_text)
from askedthen.values import in_order
from samples import ODD

VALUES = [0, 1, 255, 256, 300, 65535, 65536, 999998, 999999, "", " ", "!", "a", "aa", "ab", "b", "~", "~~",
          "0", "1", "t", "w", "Z", "z" * 39, "z" * 40]
SHORT = [0, 1, 256, 999999, "", " ", "a", "ab", "~"]


def some_keys():
    keys = [(value,) for value in VALUES]
    keys += list(itertools.product(VALUES, repeat=2))
    keys += list(itertools.product(SHORT, repeat=3))
    dice = random.Random(5)
    for size in range(4, 13):
        keys += [tuple(dice.choice(VALUES) for _ in range(size)) for _ in range(10)]
    keys += [(0,) * 12, (999999,) * 12, ("",) * 12, ("~" * 40,) * 12]
    return sorted(set(keys), key=keys.index)


KEYS = some_keys()


def plain_octets(key):
    found = b""
    for value in key:
        if isinstance(value, str):
            found += b"\x02" + value.encode("ascii") + b"\x00"
        else:
            found += b"\x01" + value.to_bytes(3, "big")
    return tuple(found + b"\x00")


def is_plainly_octets(octets):
    """Whether these octets are those of the key that they are read as."""
    key = []
    at = 0
    while at < len(octets) and octets[at] != 0:
        if octets[at] == 1:
            key.append(int.from_bytes(bytes(octets[at + 1:at + 4]), "big"))
            at += 4
        elif octets[at] == 2 and 0 in octets[at + 1:]:
            stop = octets.index(0, at + 1)
            if any(not 32 <= octet <= 126 for octet in octets[at + 1:stop]):
                return False
            key.append("".join(chr(octet) for octet in octets[at + 1:stop]))
            at = stop + 1
        else:
            return False
    return is_key(tuple(key)) and plain_octets(key) == octets


def bits(octets):
    return "".join(format(octet, "08b") for octet in octets)


class Keys(unittest.TestCase):
    def test_keys(self):
        for key in KEYS:
            self.assertIs(is_key(key), True)
        self.assertIs(is_key((0,) * 12), True)

    def test_no_keys(self):
        wrong = [(), (0,) * 13, ("a",) * 13, [0], ["t", 300], "t", "", 0, 300, (-1,), (1000000,), ("a" * 41,),
                 ("\n",), ("\x7f",), ("a", -1), ("a", 1000000), ("a", ("b",)), ("a", ["b"]), ("a", ()),
                 (0,) * 12 + ("a",)]
        for key in wrong + ODD:
            self.assertIs(is_key(key), False, repr(type(key)))
        for value in ODD:
            self.assertIs(is_key((value,)), False, repr(type(value)))
            self.assertIs(is_key(("t", value)), False, repr(type(value)))

    def test_the_example(self):
        self.assertEqual(key_octets(("t", 300)), (2, 116, 0, 1, 0, 1, 44, 0))
        self.assertEqual(body(("t", 300)), (2, 116, 0, 1, 0, 1, 44))

    def test_octets_of_values(self):
        self.assertEqual(key_octets((0,)), (1, 0, 0, 0, 0))
        self.assertEqual(key_octets((999999,)), (1, 15, 66, 63, 0))
        self.assertEqual(key_octets((65536,)), (1, 1, 0, 0, 0))
        self.assertEqual(key_octets(("",)), (2, 0, 0))
        self.assertEqual(key_octets((" ~",)), (2, 32, 126, 0, 0))
        self.assertEqual(key_octets(("a" * 40,)), (2,) + (97,) * 40 + (0, 0))
        self.assertEqual(key_octets((0, "", 1)), (1, 0, 0, 0, 2, 0, 1, 0, 0, 1, 0))
        self.assertEqual(key_octets((1,) * 12), (1, 0, 0, 1) * 12 + (0,))

    def test_octets_of_keys(self):
        for key in KEYS:
            found = key_octets(key)
            self.assertIs(type(found), tuple)
            self.assertEqual(found, plain_octets(key))
            self.assertEqual(body(key), found[:-1])
            self.assertEqual(body(list(key)), found[:-1])
        self.assertEqual(body(()), ())
        self.assertEqual(body([]), ())

    def test_the_list_handed_in_stays(self):
        values = ["t", 300]
        body(values)
        range_of(values)
        range_of_text(values, "a")
        self.assertEqual(values, ["t", 300])


class Order(unittest.TestCase):
    def test_order_of_octets_is_that_of_keys(self):
        by_octets = sorted(KEYS, key=key_octets)
        self.assertEqual(by_octets, in_order(KEYS))
        self.assertLess(key_octets((999999,)), key_octets(("",)))
        self.assertLess(key_octets(("a",)), key_octets(("a", 0)))
        self.assertLess(key_octets(("a", "~~")), key_octets(("a ",)))

    def test_no_octets_begin_with_others(self):
        # Octets that begin with others would come right behind them, or behind others that do.
        ordered = sorted(key_octets(key) for key in KEYS)
        for one, other in zip(ordered, ordered[1:]):
            self.assertNotEqual(other[:len(one)], one)


class AreKeyOctets(unittest.TestCase):
    def test_octets_of_keys(self):
        for key in KEYS:
            self.assertIs(are_key_octets(key_octets(key)), True, key)

    def test_bounds(self):
        for octets, expected in (
            ((), False), ((0,), False), ((0, 0), False), ((1, 0, 0, 0, 0), True), ((1, 0, 0, 0), False),
            ((1, 0, 0), False), ((1, 0), False), ((1,), False), ((2,), False), ((2, 0), False),
            ((2, 0, 0), True), ((2, 0, 0, 0), False), ((3, 0), False), ((3, 0, 0, 0, 0), False),
            ((1, 15, 66, 63, 0), True), ((1, 15, 66, 64, 0), False), ((1, 255, 255, 255, 0), False),
            ((1, 16, 0, 0, 0), False), ((2, 31, 0, 0), False), ((2, 32, 0, 0), True),
            ((2, 126, 0, 0), True), ((2, 127, 0, 0), False), ((2, 97, 0), False), ((2, 97), False),
            ((2,) + (97,) * 40 + (0, 0), True), ((2,) + (97,) * 41 + (0, 0), False),
            ((1, 0, 0, 0) * 12 + (0,), True), ((1, 0, 0, 0) * 13 + (0,), False),
            ((2, 0) * 12 + (0,), True), ((2, 0) * 13 + (0,), False), ((2, 0) * 12, False),
            ((1, 0, 0, 0, 0, 0), False), ((1, 0, 0, 0, 0, 1), False), ((2, 0, 0, 2, 0, 0), False),
            ((2, 97, 0, 1, 0, 0), False), ((2, 97, 0, 3), False),
        ):
            self.assertIs(are_key_octets(octets), expected, octets)
            self.assertIs(is_plainly_octets(octets), expected, octets)

    def test_spoilt_octets(self):
        for key in (("t", 300), ("",), (999999, "a~"), (0, "", "b"), (983040, 65535)):
            octets = key_octets(key)
            for place in range(len(octets)):
                without = octets[:place] + octets[place + 1:]
                self.assertEqual(are_key_octets(without), is_plainly_octets(without), without)
                self.assertIs(are_key_octets(octets[:place]), False)
                for octet in range(256):
                    spoilt = octets[:place] + (octet,) + octets[place + 1:]
                    self.assertEqual(are_key_octets(spoilt), is_plainly_octets(spoilt), spoilt)
            for octet in range(256):
                self.assertIs(are_key_octets(octets + (octet,)), False)

    def test_short_octets(self):
        for size in range(6):
            for octets in itertools.product((0, 1, 2, 3, 15, 66, 97), repeat=size):
                self.assertEqual(are_key_octets(octets), is_plainly_octets(octets), octets)

    def test_other_things(self):
        for value in ODD + ["", "ab", 0, 1, [1, 0, 0, 0, 0]]:
            self.assertIs(are_key_octets(value), False, repr(type(value)))
            self.assertIs(are_key_octets((2, value, 0, 0)), False, repr(type(value)))
        for octet in (-1, 256, 353):
            self.assertIs(are_key_octets((2, octet, 0, 0)), False)
            self.assertIs(are_key_octets((1, 0, 0, octet, 0)), False)


class Ranges(unittest.TestCase):
    def lying(self, found):
        first, last = found
        self.assertIs(type(found), tuple)
        self.assertIs(type(first), tuple)
        self.assertIs(type(last), tuple)
        return [key for key in KEYS if first <= key_octets(key) < last]

    def test_the_very_ranges(self):
        self.assertEqual(range_of(("t", 300)),
                         ((2, 116, 0, 1, 0, 1, 44), (2, 116, 0, 1, 0, 1, 44, 3)))
        self.assertEqual(range_of(()), ((), (3,)))
        self.assertEqual(range_of_text(("t",), "mi"),
                         ((2, 116, 0, 2, 109, 105), (2, 116, 0, 2, 109, 105, 127)))
        self.assertEqual(range_of_text((), ""), ((2,), (2, 127)))
        self.assertEqual(range_of_text([7], ""), ((1, 0, 0, 7, 2), (1, 0, 0, 7, 2, 127)))
        self.assertEqual(range_of_key(("", 1)), ((2, 0, 1, 0, 0, 1, 0), (2, 0, 1, 0, 0, 1, 0, 0)))

    def test_keys_that_begin_with_values(self):
        for values in [()] + KEYS[:400:7] + [("z" * 40,), (999999, "~")]:
            expected = [key for key in KEYS if key[:len(values)] == values]
            self.assertEqual(self.lying(range_of(values)), expected, values)
            self.assertEqual(self.lying(range_of(list(values))), expected, values)

    def test_keys_that_begin_with_a_beginning(self):
        for values in ((), ("a",), (0,), ("", ""), (999999, "~")):
            size = len(values)
            for beginning in ("", "a", "ab", "~", "z", "z" * 39, "z" * 40, " ", "0"):
                expected = [key for key in KEYS if len(key) > size and key[:size] == values
                            and isinstance(key[size], str) and key[size].startswith(beginning)]
                self.assertEqual(self.lying(range_of_text(values, beginning)), expected)

    def test_a_single_key(self):
        for key in KEYS[::11]:
            self.assertEqual(self.lying(range_of_key(key)), [key])
        self.assertEqual(self.lying(range_of_key(("no", "such", "key"))), [])


class Bits(unittest.TestCase):
    SOME = KEYS[:25] + KEYS[25:700:23] + KEYS[-60::5]

    def test_first_bit(self):
        for one, other in itertools.product(self.SOME, repeat=2):
            first, second = key_octets(one), key_octets(other)
            expected = None
            for number, (here, there) in enumerate(zip(bits(first), bits(second))):
                if here != there:
                    expected = number
                    break
            self.assertEqual(first_bit(first, second), expected, (one, other))
            self.assertEqual(expected is None, one == other)

    def test_the_example(self):
        self.assertEqual(first_bit((2, 97, 0, 0), (2, 98, 0, 0)), 14)
        self.assertEqual(first_bit((1, 0, 0, 0, 0), (2, 0, 0)), 6)
        self.assertEqual(first_bit((1, 0, 128, 0, 0), (1, 0, 0, 0, 0)), 16)
        self.assertEqual(first_bit((1, 0, 1, 0, 0), (1, 0, 0, 0, 0)), 23)
        self.assertIsNone(first_bit((2, 0, 0), (2, 0, 0)))

    def test_has_bit(self):
        for key in self.SOME:
            octets = key_octets(key)
            for number, bit in enumerate(bits(octets)):
                self.assertIs(has_bit(octets, number), bit == "1")
        self.assertIs(has_bit((2, 0, 0), 24), False)


if __name__ == "__main__":
    unittest.main()
