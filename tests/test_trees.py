import itertools
import random
import unittest

from askedthen.errors import Unknown
from askedthen.hashing import Hasher
from askedthen.octets import key_octets, range_of, range_of_key
from askedthen.trees import TreeSource, entries, input_of, put, root, state_input, tree_of
from plain_trees import (bits, deep_paper, is_plainly_outside, plain_digest, plain_first_bit, plain_input,
                         plain_pruned, plain_state_input, plain_summary, plain_tree, plain_way, some_entries,
                         some_keys, some_ranges, subtrees)

HASHER = Hasher(2 ** 31 - 1, 1000003)
SMALL = Hasher(7, 3)
EVERY = ((), (3,))
DAYS = ((0, 5),)
MORE = ((0, 3), (7, 10000))


def replaced(tree, places, at=0):
    """The tree with its parts at these places of the preorder, and what is below them, pruned."""
    if tree is None or at in places:
        return plain_pruned(tree)
    if tree[0] != "node":
        return tree
    left = replaced(tree[5], places, at + 1)
    return tree[:5] + (left, replaced(tree[6], places, at + 1 + len(subtrees(tree[5]))))


def some_pruned(seed, tree):
    """The tree with some parts pruned."""
    dice = random.Random(seed)
    count = len(subtrees(tree))
    return replaced(tree, dice.sample(range(count), dice.randint(0, min(3, count))))


class Shape(unittest.TestCase):
    def test_the_example(self):
        tree = tree_of(HASHER, [(("a",), ((0, 5),)), (("b",), ((3, 4),))])
        self.assertEqual(tree[:4], ("node", 2, (2, 97, 0, 0), (2, 98, 0, 0)))
        left, right = tree[5:]
        self.assertEqual(left[:4], ("leaf", 1, (2, 97, 0, 0), (2, 97, 0, 0)))
        self.assertEqual(left[5:], (("a",), ((0, 5),)))
        self.assertEqual(right[5:], (("b",), ((3, 4),)))
        self.assertEqual(plain_first_bit(bits(tree[2]), bits(tree[3])), 14)
        self.assertEqual(tree[4], HASHER.digest([1, 1, 4, 2, 97, 0, 0, 4, 2, 97, 0, 0, left[4],
                                                 1, 4, 2, 98, 0, 0, 4, 2, 98, 0, 0, right[4]]))
        self.assertEqual(left[4], HASHER.digest([0, 4, 2, 97, 0, 0, 1, 0, 5]))

    def test_no_entries_and_one(self):
        self.assertIsNone(tree_of(HASHER, []))
        octets = key_octets(("t", 300))
        numbers = [0, 8] + list(octets) + [2, 0, 3, 7, 10000]
        self.assertEqual(tree_of(HASHER, [(("t", 300), MORE)]),
                         ("leaf", 1, octets, octets, plain_digest(HASHER, numbers), ("t", 300), MORE))

    def test_against_a_plain_builder(self):
        for seed in range(40):
            for hasher in (HASHER, SMALL):
                held = some_entries(seed, 1 + seed * 2)
                self.assertEqual(tree_of(hasher, list(held.items())), plain_tree(hasher, held), seed)

    def test_many_entries(self):
        held = {("t", "item", number, str(number)): DAYS for number in range(700)}
        self.assertEqual(tree_of(HASHER, list(held.items())), plain_tree(HASHER, held))

    def test_beginnings_of_other_keys(self):
        keys = [("a",) * size for size in range(1, 13)] + [("a" * size,) for size in range(41)]
        keys += [(0,) * size for size in range(1, 13)] + [("", 0), (0, ""), ("a", 0)]
        held = {key: DAYS for key in keys}
        expected = plain_tree(HASHER, held)
        for seed in range(5):
            random.Random(seed).shuffle(keys)
            self.assertEqual(tree_of(HASHER, [(key, DAYS) for key in keys]), expected)

    def test_the_order_of_putting_does_not_matter(self):
        held = some_entries(3, 6)
        expected = plain_tree(HASHER, held)
        for order in itertools.permutations(held.items()):
            self.assertEqual(tree_of(HASHER, list(order)), expected)

    def test_keys_that_are_taken_out_again_do_not_matter(self):
        for seed in range(60):
            dice = random.Random(seed)
            held = some_entries(seed, dice.randint(0, 12))
            others = [key for key in some_keys(seed + 500, 10) if key not in held]
            moves = [[(key, MORE), (key, ())] for key in others]
            moves += [[(key, DAYS), (key, ()), (key, spans)] for key, spans in held.items()]
            rows = []
            while any(moves):
                rows.append(dice.choice([move for move in moves if move]).pop(0))
            self.assertEqual(tree_of(HASHER, rows), plain_tree(HASHER, held), seed)

    def test_the_list_handed_in_stays(self):
        rows = [(("a",), DAYS), (("b",), MORE), (("a",), ())]
        tree = tree_of(HASHER, rows)
        self.assertEqual(rows, [(("a",), DAYS), (("b",), MORE), (("a",), ())])
        rows.clear()
        self.assertEqual(entries(tree, *EVERY), [(("b",), MORE)])


class Put(unittest.TestCase):
    def test_each_put(self):
        for seed in range(12):
            held = some_entries(seed, 10)
            tree = tree_of(HASHER, list(held.items()))
            for key in list(held) + some_keys(seed + 90, 10):
                for spans in (DAYS, MORE, held.get(key, DAYS), ()):
                    after = dict(held)
                    after[key] = spans
                    if not spans:
                        del after[key]
                    self.assertEqual(put(HASHER, tree, key, spans), plain_tree(HASHER, after))
            self.assertEqual(tree, plain_tree(HASHER, held))

    def test_the_empty_tree(self):
        self.assertIsNone(put(HASHER, None, ("a",), ()))
        self.assertEqual(put(HASHER, None, ("a",), DAYS), plain_tree(HASHER, {("a",): DAYS}))

    def test_the_last_key(self):
        tree = tree_of(HASHER, [(("a",), DAYS)])
        self.assertIsNone(put(HASHER, tree, ("a",), ()))
        self.assertEqual(put(HASHER, tree, ("a",), MORE), plain_tree(HASHER, {("a",): MORE}))
        self.assertEqual(put(HASHER, tree, ("b",), ()), tree)

    def test_a_key_that_is_not_there(self):
        held = some_entries(8, 12)
        tree = tree_of(HASHER, list(held.items()))
        for key in some_keys(77, 30):
            if key not in held:
                self.assertEqual(put(HASHER, tree, key, ()), tree)

    def test_a_tree_that_was_there_before_stays(self):
        held = some_entries(4, 15)
        tree = tree_of(HASHER, list(held.items()))
        before = entries(tree, *EVERY)
        states = [tree]
        for key in list(held) + [("new",), ("new", 1)]:
            states.append(put(HASHER, states[-1], key, MORE if key not in held else ()))
        self.assertEqual(entries(tree, *EVERY), before)
        self.assertEqual(entries(states[-1], *EVERY), [(("new",), MORE), (("new", 1), MORE)])

    def test_pruned_trees(self):
        stuck = 0
        for seed in range(40):
            held = some_entries(seed, 9)
            whole = plain_tree(HASHER, held)
            tree = some_pruned(seed, whole)
            for key in list(held) + some_keys(seed + 900, 9):
                for spans in (MORE, ()):
                    if plain_way(tree, key)[2]:
                        stuck += 1
                        with self.assertRaises(Unknown):
                            put(HASHER, tree, key, spans)
                        continue
                    after = dict(held)
                    after[key] = spans
                    if not spans:
                        del after[key]
                    self.assertEqual(root(HASHER, put(HASHER, tree, key, spans)),
                                     root(HASHER, plain_tree(HASHER, after)))
        self.assertGreater(stuck, 50)

    def test_pruned_parts_of_one_entry(self):
        whole = plain_tree(HASHER, {("a",): DAYS})
        part = plain_pruned(whole)
        self.assertIsNone(put(HASHER, part, ("a",), ()))
        self.assertEqual(put(HASHER, part, ("b",), ()), part)
        self.assertEqual(put(HASHER, part, ("a",), MORE), plain_tree(HASHER, {("a",): MORE}))
        two = put(HASHER, part, ("b",), MORE)
        self.assertEqual(two[5], part)
        self.assertEqual(root(HASHER, two), root(HASHER, plain_tree(HASHER, {("a",): DAYS, ("b",): MORE})))

    def test_a_sibling_that_is_pruned_takes_the_place(self):
        whole = plain_tree(HASHER, {("a",): DAYS, ("t", 1): DAYS, ("t", 2): MORE})
        tree = whole[:6] + (plain_pruned(whole[6]),)
        self.assertEqual(put(HASHER, tree, ("a",), ()), plain_pruned(whole[6]))
        with self.assertRaises(Unknown):
            put(HASHER, tree, ("t", 1), DAYS)
        with self.assertRaises(Unknown):
            put(HASHER, tree, ("t", 1), ())
        # The way ends at a pruned part, too, where the key cannot be in it.
        joined = put(HASHER, tree, ("tt",), DAYS)
        self.assertEqual(joined[1], 4)
        self.assertIn(plain_pruned(whole[6]), subtrees(joined))


class Inputs(unittest.TestCase):
    def test_each_part(self):
        for seed in range(30):
            for hasher in (HASHER, SMALL, Hasher(2, 1)):
                held = some_entries(seed, 12)
                tree = tree_of(hasher, list(held.items()))
                for part in subtrees(tree):
                    below = [leaf for leaf in subtrees(part) if leaf[0] == "leaf"]
                    self.assertEqual(part[1], len(below))
                    self.assertEqual(part[2], min(key_octets(leaf[5]) for leaf in below))
                    self.assertEqual(part[3], max(key_octets(leaf[5]) for leaf in below))
                    self.assertEqual(input_of(part), plain_input(part))
                    self.assertEqual(part[4], plain_digest(hasher, plain_input(part)))

    def test_states(self):
        self.assertEqual(state_input(None), [2])
        self.assertEqual(root(HASHER, None), HASHER.digest([2]))
        self.assertEqual(root(Hasher(1000, 10), None), 3)
        tree = tree_of(HASHER, [(("a",), DAYS)])
        self.assertEqual(state_input(tree), [3, 1, 4, 2, 97, 0, 0, 4, 2, 97, 0, 0, tree[4]])
        for seed in range(20):
            for hasher in (HASHER, SMALL):
                tree = tree_of(hasher, list(some_entries(seed, seed + 1).items()))
                for part in (tree, plain_pruned(tree), some_pruned(seed, tree)):
                    self.assertEqual(state_input(part), plain_state_input(part))
                    self.assertEqual(state_input(part), [3] + plain_summary(tree))
                    self.assertEqual(root(hasher, part), plain_digest(hasher, plain_state_input(tree)))

    def test_nodes_with_pruned_children(self):
        tree = plain_tree(HASHER, some_entries(1, 9))
        for children in itertools.product((tree[5], plain_pruned(tree[5])), (tree[6], plain_pruned(tree[6]))):
            self.assertEqual(input_of(tree[:5] + children), plain_input(tree))

    def test_what_is_returned_is_the_callers(self):
        tree = tree_of(HASHER, [(("a",), DAYS), (("b",), MORE)])
        source = TreeSource(tree)
        for find in (lambda: state_input(tree), lambda: state_input(None), lambda: input_of(tree),
                     lambda: input_of(tree[5]), lambda: entries(tree, *EVERY), lambda: source.entries(*EVERY)):
            first = list(find())
            self.assertIs(type(find()), list)
            find().clear()
            self.assertEqual(find(), first)


class Entries(unittest.TestCase):
    def plainly(self, held, first, last):
        keys = sorted((key for key in held if first <= key_octets(key) < last), key=key_octets)
        return [(key, held[key]) for key in keys]

    def test_ranges(self):
        for seed in range(30):
            held = some_entries(seed, 20)
            tree = tree_of(HASHER, list(held.items()))
            keys = list(held) + some_keys(seed + 50, 10)
            ranges = some_ranges(seed, keys, 60) + [EVERY, ((), ()), ((3,), (4,)), ((), (1,)), ((3,), ())]
            ranges += [range_of_key(key) for key in keys] + [range_of(key[:1]) for key in keys]
            for first, last in ranges:
                found = entries(tree, first, last)
                self.assertEqual(found, self.plainly(held, first, last))
                self.assertEqual(TreeSource(tree).entries(first, last), found)

    def test_the_empty_tree(self):
        self.assertEqual(entries(None, *EVERY), [])
        self.assertEqual(TreeSource(None).entries(*EVERY), [])

    def test_ends_just_on_a_key(self):
        held = {("a",): DAYS, ("b",): MORE, ("c",): DAYS}
        tree = tree_of(HASHER, list(held.items()))
        one, two, three = [key_octets(key) for key in held]
        for first, last, expected in (
            (one, two, ["a"]), (one, three, ["a", "b"]), (one, one, []), (two + (0,), three, []),
            (one + (0,), three + (0,), ["b", "c"]), (three, three + (0,), ["c"]), (three, two, []),
        ):
            self.assertEqual([key[0] for key, _ in entries(tree, first, last)], expected)

    def test_pruned_parts(self):
        told = {True: 0, False: 0}
        for seed in range(60):
            held = some_entries(seed, 12)
            tree = some_pruned(seed, plain_tree(HASHER, held))
            pruned = [part for part in subtrees(tree) if part[0] == "pruned"]
            source = TreeSource(tree)
            for first, last in some_ranges(seed, list(held) + some_keys(seed + 9, 9), 40) + [EVERY, ((), ())]:
                known = all(is_plainly_outside(part, first, last) for part in pruned)
                told[known] += 1
                if known:
                    self.assertEqual(entries(tree, first, last), self.plainly(held, first, last))
                    self.assertEqual(source.entries(first, last), entries(tree, first, last))
                else:
                    with self.assertRaises(Unknown):
                        entries(tree, first, last)
                    with self.assertRaises(Unknown):
                        source.entries(first, last)
        self.assertGreater(min(told.values()), 200)

    def test_ends_just_on_a_pruned_part(self):
        low, high = key_octets(("b",)), key_octets(("d",))
        part = ("pruned", 5, low, high, 3)
        self.assertEqual(entries(part, (), low), [])
        self.assertEqual(entries(part, high + (0,), (3,)), [])
        for first, last in (((), low + (0,)), (high, (3,)), (low, high), EVERY, (low + (0,), low + (0,))):
            with self.assertRaises(Unknown):
                entries(part, first, last)


class Deep(unittest.TestCase):
    def test_a_tree_of_thousands_of_nodes_one_below_the_other(self):
        told = [(part[1], part[2]) for part in deep_paper() if part[0] == "leaf"]
        tree = None
        # From the deepest one up, so that each way is short.
        for key, spans in told[::-1]:
            tree = put(SMALL, tree, key, spans)
        self.assertEqual(tree[1], 2881)
        self.assertEqual(entries(tree, *EVERY), told)
        key = told[-1][0]
        changed = put(SMALL, tree, key, MORE)
        self.assertEqual(entries(changed, *range_of_key(key)), [(key, MORE)])
        self.assertEqual(entries(put(SMALL, tree, key, ()), *EVERY), told[:-1])


if __name__ == "__main__":
    unittest.main()
