import itertools
import random
import unittest

from askedthen.errors import Unknown
from askedthen.hashing import Hasher
from askedthen.octets import key_octets, range_of, range_of_key
from askedthen.papers import paper_of, tree_of_paper
from askedthen.pruning import prune, prune_for
from askedthen.trees import entries, put, root, tree_of
from plain_trees import (deep_paper, is_plainly_outside, plain_pruned, plain_tree, plain_way, some_entries,
                         some_keys, some_ranges, subtrees)

HASHER = Hasher(2 ** 31 - 1, 1000003)
EVERY = ((), (3,))
DAYS = ((0, 5),)


def plainly_pruned(tree, ranges):
    """The tree with each greatest part that is outside all of the ranges pruned."""
    if tree is None:
        return None
    if all(is_plainly_outside(tree, first, last) for first, last in ranges):
        return plain_pruned(tree)
    if tree[0] != "node":
        return tree
    return tree[:5] + (plainly_pruned(tree[5], ranges), plainly_pruned(tree[6], ranges))


def plainly_pruned_for(tree, keys):
    """The tree in which just the nodes stay from which a way goes on."""
    kept = [node for key in keys for node in plain_way(tree, key)[0]]

    def part_of(part):
        if part not in kept:
            return plain_pruned(part)
        return part[:5] + (part_of(part[5]), part_of(part[6]))

    return None if tree is None else part_of(tree)


class ForRanges(unittest.TestCase):
    def test_against_a_plain_reckoning(self):
        for seed in range(60):
            dice = random.Random(seed)
            held = some_entries(seed, 1 + seed // 2)
            tree = tree_of(HASHER, list(held.items()))
            keys = list(held) + some_keys(seed + 70, 8)
            ranges = some_ranges(seed, keys, dice.randint(0, 5))
            pruned = prune(tree, ranges)
            self.assertEqual(pruned, plainly_pruned(tree, ranges), seed)
            self.assertEqual(pruned[1:5], tree[1:5])
            self.assertEqual(root(HASHER, pruned), root(HASHER, tree))
            for first, last in ranges:
                self.assertEqual(entries(pruned, first, last), entries(tree, first, last))

    def test_nothing_more_can_be_pruned(self):
        for seed in range(40):
            held = some_entries(seed, 15)
            ranges = some_ranges(seed, list(held) + some_keys(seed + 7, 5), 3)
            for part in subtrees(prune(tree_of(HASHER, list(held.items())), ranges)):
                if part[0] != "pruned":
                    # Pruned, this part would not let one of the ranges be answered.
                    told = 0
                    for first, last in ranges:
                        try:
                            entries(plain_pruned(part), first, last)
                            told += 1
                        except Unknown:
                            pass
                    self.assertLess(told, len(ranges))

    def test_no_range(self):
        for count in (1, 2, 9):
            tree = tree_of(HASHER, list(some_entries(count, count).items()))
            self.assertEqual(prune(tree, []), plain_pruned(tree))
            self.assertEqual(prune(tree, [EVERY]), tree)
            self.assertEqual(prune(tree, [((3,), (4,)), ((), (1,))]), plain_pruned(tree))

    def test_the_empty_tree(self):
        self.assertIsNone(prune(None, []))
        self.assertIsNone(prune(None, [EVERY, range_of(("t",))]))

    def test_a_single_leaf(self):
        leaf = tree_of(HASHER, [(("a",), DAYS)])
        self.assertEqual(prune(leaf, [range_of_key(("a",))]), leaf)
        self.assertEqual(prune(leaf, [range_of_key(("b",)), range_of(("a",))]), leaf)
        self.assertEqual(prune(leaf, [range_of_key(("b",)), ((), leaf[2])]), plain_pruned(leaf))

    def test_that_nothing_is_there_is_told_by_pruned_parts(self):
        tree = tree_of(HASHER, [(("a",), DAYS), (("b",), DAYS), (("c",), DAYS)])
        pruned = prune(tree, [range_of_key(("aa",))])
        self.assertEqual([part[0] for part in subtrees(pruned)], ["node", "pruned", "pruned"])
        self.assertEqual(entries(pruned, *range_of_key(("aa",))), [])

    def test_pruned_again(self):
        for seed in range(30):
            held = some_entries(seed, 14)
            tree = tree_of(HASHER, list(held.items()))
            ranges = some_ranges(seed, list(held), 4)
            pruned = prune(tree, ranges)
            self.assertEqual(prune(pruned, ranges), pruned)
            self.assertEqual(prune(pruned, ranges[:2]), prune(tree, ranges[:2]))
            # Nothing that is pruned already is told again, and no error is raised for it.
            self.assertEqual(prune(pruned, [EVERY]), pruned)
            self.assertEqual(prune(pruned, []), plain_pruned(tree))

    def test_what_is_handed_in_stays(self):
        held = some_entries(2, 12)
        tree = tree_of(HASHER, list(held.items()))
        ranges = some_ranges(2, list(held), 4)
        keys = list(held)[:4]
        given = list(ranges), list(keys)
        prune(tree, ranges)
        prune_for(tree, keys)
        self.assertEqual((ranges, keys), given)
        self.assertEqual(tree, plain_tree(HASHER, held))


class ForKeys(unittest.TestCase):
    def test_against_a_plain_reckoning(self):
        for seed in range(60):
            dice = random.Random(seed)
            held = some_entries(seed, 1 + seed // 2)
            tree = tree_of(HASHER, list(held.items()))
            some = list(held) + some_keys(seed + 70, 12)
            keys = [dice.choice(some) for _ in range(dice.randint(0, 5))]
            pruned = prune_for(tree, keys)
            self.assertEqual(pruned, plainly_pruned_for(tree, keys), seed)
            self.assertEqual(pruned[1:5], tree[1:5])
            self.assertEqual(root(HASHER, pruned), root(HASHER, tree))
            self.assertFalse([part for part in subtrees(pruned) if part[0] == "leaf"])

    def test_the_keys_can_be_put_in_any_order(self):
        for seed in range(60):
            dice = random.Random(seed)
            held = some_entries(seed, dice.randint(0, 12))
            tree = tree_of(HASHER, list(held.items()))
            keys = dice.sample(list(held) + some_keys(seed + 30, 4), 4)
            pruned = prune_for(tree, keys)
            for order in itertools.permutations(keys):
                part, whole = pruned, tree
                for key in order:
                    spans = dice.choice([(), (), DAYS, ((0, 3), (9, 10))])
                    part, whole = put(HASHER, part, key, spans), put(HASHER, whole, key, spans)
                    self.assertEqual(root(HASHER, part), root(HASHER, whole))

    def test_all_keys_are_taken_out_and_put_again(self):
        for seed in range(20):
            held = some_entries(seed, 8)
            tree = tree_of(HASHER, list(held.items()))
            part = prune_for(tree, list(held))
            for key in held:
                part = put(HASHER, part, key, ())
            self.assertIsNone(part)
            part = prune_for(tree, list(held))
            for spans in ((), ((1, 2),), ()):
                for key in held:
                    part = put(HASHER, part, key, spans)
            self.assertIsNone(part)

    def test_no_keys(self):
        for count in (1, 2, 9):
            tree = tree_of(HASHER, list(some_entries(count, count).items()))
            self.assertEqual(prune_for(tree, []), plain_pruned(tree))
        self.assertIsNone(prune_for(None, []))
        self.assertIsNone(prune_for(None, [("a",), ("b",)]))

    def test_the_same_key_several_times(self):
        held = some_entries(6, 9)
        tree = tree_of(HASHER, list(held.items()))
        for key in held:
            self.assertEqual(prune_for(tree, [key, key, key]), prune_for(tree, [key]))

    def test_leaves(self):
        leaf = tree_of(HASHER, [(("a",), DAYS)])
        self.assertEqual(prune_for(leaf, [("a",)]), plain_pruned(leaf))
        self.assertEqual(prune_for(leaf, [("b",)]), plain_pruned(leaf))
        two = tree_of(HASHER, [(("a",), DAYS), (("b",), DAYS)])
        self.assertEqual(prune_for(two, [("a",)]), two[:5] + (plain_pruned(two[5]), plain_pruned(two[6])))
        # This key leaves the others ahead of the bit in which they differ, so its way ends at once.
        self.assertEqual(prune_for(two, [(7,)]), plain_pruned(two))

    def test_pruned_trees(self):
        told = {True: 0, False: 0}
        for seed in range(80):
            dice = random.Random(seed)
            held = some_entries(seed, 14)
            whole = tree_of(HASHER, list(held.items()))
            tree = prune_for(whole, dice.sample(list(held), 3))
            keys = [dice.choice(list(held) + some_keys(seed + 5, 14)) for _ in range(dice.randint(1, 3))]
            stuck = any(plain_way(tree, key)[2] for key in keys)
            told[stuck] += 1
            if stuck:
                with self.assertRaises(Unknown):
                    prune_for(tree, keys)
            else:
                self.assertEqual(prune_for(tree, keys), prune_for(whole, keys))
        self.assertGreater(min(told.values()), 10)

    def test_keys_that_begin_with_others(self):
        held = {("a",) * size: DAYS for size in range(1, 13)}
        tree = tree_of(HASHER, list(held.items()))
        for keys in itertools.combinations(held, 2):
            self.assertEqual(prune_for(tree, list(keys)), plainly_pruned_for(tree, keys))
        self.assertEqual(key_octets(("a",))[:-1], key_octets(("a", "a"))[:3])


class Deep(unittest.TestCase):
    def test_a_tree_of_thousands_of_nodes_one_below_the_other(self):
        paper = deep_paper()
        tree = tree_of_paper(HASHER, paper)
        last = paper[-1][1]
        self.assertEqual(paper_of(prune(tree, [EVERY])), paper)
        pruned = prune(tree, [range_of_key(last)])
        told = paper_of(pruned)
        self.assertEqual([part[0] for part in told[:-1]], ["node", "pruned"] * 2880)
        self.assertEqual(told[-1], paper[-1])
        open_for = prune_for(tree, [last])
        self.assertEqual([part[0] for part in paper_of(open_for)], ["node", "pruned"] * 2880 + ["pruned"])
        self.assertEqual(root(HASHER, put(HASHER, open_for, last, ())), root(HASHER, put(HASHER, tree, last, ())))


if __name__ == "__main__":
    unittest.main()
