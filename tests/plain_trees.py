"""Plain reckonings of trees, straight from the document, and entries to try them with."""

import functools
import random

from askedthen.octets import key_octets
from samples import some_spans

VALUES = [0, 1, 2, 3, 255, 256, 65536, 999999, "", " ", "a", "aa", "ab", "b", "c", "t", "~", "z" * 40]


def plain_digest(hasher, numbers):
    """The digest as a sum, from the last number to the first."""
    total, power = 0, 1
    for number in numbers[::-1]:
        total += (number + 1) * power
        power = power * hasher.multiplier % hasher.modulus
    return total % hasher.modulus


@functools.lru_cache(maxsize=None)
def bits(octets):
    return "".join(format(octet, "08b") for octet in octets)


def bits_of_key(key):
    return bits(key_octets(key))


def plain_first_bit(one, other):
    """The first place at which two rows of bits differ, or None."""
    for place, (first, second) in enumerate(zip(one, other)):
        if first != second:
            return place
    return None


def plain_summary(tree):
    _, count, low, high, digest = tree[:5]
    return [count, len(low)] + list(low) + [len(high)] + list(high) + [digest]


def plain_input(tree):
    if tree[0] == "leaf":
        key, spans = tree[5:]
        octets = list(key_octets(key))
        return [0, len(octets)] + octets + [len(spans)] + [point for pair in spans for point in pair]
    return [1] + plain_summary(tree[5]) + plain_summary(tree[6])


def plain_state_input(tree):
    return [2] if tree is None else [3] + plain_summary(tree)


def plain_tree(hasher, held):
    """The tree of a dict from keys to spans that are not empty, by the first bit of least and greatest."""
    keys = sorted(held, key=key_octets)
    if not keys:
        return None
    if len(keys) == 1:
        octets = key_octets(keys[0])
        leaf = ("leaf", 1, octets, octets, None, keys[0], held[keys[0]])
        return leaf[:4] + (plain_digest(hasher, plain_input(leaf)),) + leaf[5:]
    apart = plain_first_bit(bits_of_key(keys[0]), bits_of_key(keys[-1]))
    left = {key: held[key] for key in keys if bits_of_key(key)[apart] == "0"}
    right = {key: held[key] for key in keys if bits_of_key(key)[apart] == "1"}
    node = ("node", len(keys), key_octets(keys[0]), key_octets(keys[-1]), None,
            plain_tree(hasher, left), plain_tree(hasher, right))
    return node[:4] + (plain_digest(hasher, plain_input(node)),) + node[5:]


def subtrees(tree):
    """All parts of a tree, in preorder."""
    if tree is None:
        return []
    if tree[0] != "node":
        return [tree]
    return [tree] + subtrees(tree[5]) + subtrees(tree[6])


def plain_pruned(tree):
    return ("pruned",) + tree[1:5]


def plain_way(tree, key):
    """The nodes from which the way to a key goes on, the tree at its end, and whether it is stuck there."""
    way = []
    told = bits_of_key(key)
    while tree is not None and tree[1] > 1:
        low, high = bits(tree[2]), bits(tree[3])
        apart = plain_first_bit(low, high)
        if told[:apart] != low[:apart]:
            return way, tree, False
        if tree[0] == "pruned":
            return way, tree, True
        way.append(tree)
        tree = tree[5] if told[apart] == "0" else tree[6]
    return way, tree, False


def is_plainly_outside(tree, first, last):
    return tree[3] < first or not tree[2] < last


def some_keys(seed, count):
    """So many unlike keys, many of which are beginnings of others."""
    dice = random.Random(seed)
    keys = {}
    while len(keys) < count:
        if keys and dice.random() < 0.4:
            key = dice.choice(list(keys))
            key = key[:dice.randint(1, len(key))] + (dice.choice(VALUES),)
        else:
            key = tuple(dice.choice(VALUES) for _ in range(dice.randint(1, 4)))
        if len(key) <= 12:
            keys[key] = True
    return list(keys)


def some_entries(seed, count):
    """A dict of so many entries."""
    dice = random.Random(seed)
    held = {}
    for key in some_keys(seed, count):
        start = dice.randint(0, 9000)
        held[key] = some_spans(dice.random(), 3) or ((start, start + 5),)
    return held


def some_ranges(seed, keys, count):
    """Ranges of many kinds around some keys, their ends just on keys among them."""
    dice = random.Random(seed)
    ranges = []
    for _ in range(count):
        key = dice.choice(keys)
        octets = key_octets(key)
        body = octets[:-1]
        other = key_octets(dice.choice(keys))
        ranges.append(dice.choice([
            (octets, octets + (0,)),
            (body, body + (3,)),
            (key_octets(key[:1])[:-1], key_octets(key[:1])[:-1] + (3,)),
            (min(octets, other), max(octets, other)),
            (min(octets, other) + (0,), max(octets, other) + (0,)),
            ((), octets), (octets, (3,)), (octets[:3] + (255,), octets[:2] + (255, 255)),
            (octets, octets), ((2,), (2, 127)),
        ]))
    return ranges


def deep_paper():
    """The paper of a tree that is thousands of nodes deep: keys that leave the last one bit by bit."""
    parts = []
    last = ("~" * 40,) * 12
    for place in range(12):
        for size in range(40):
            for bit in (64, 32, 16, 8, 4, 2):
                key = last[:place] + ("~" * size + chr(126 ^ bit),)
                parts += [("node",), ("leaf", key, ((size, size + 1),))]
    return parts + [("leaf", last, ((0, 10000),))]
