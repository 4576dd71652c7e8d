import random
import unittest

from askedthen.clashes import find_clash
from askedthen.errors import BadPaper
from askedthen.hashing import Hasher
from askedthen.octets import key_octets
from askedthen.papers import paper_of, tree_of_paper
from askedthen.pruning import prune, prune_for
from askedthen.trees import root, tree_of
from plain_trees import (deep_paper, plain_digest, plain_input, plain_pruned, plain_state_input, some_entries,
                         some_keys, some_ranges, subtrees)
from samples import some_spans

HASHER = Hasher(2 ** 31 - 1, 1000003)
DAYS = ((0, 5),)


def plain_clash(tree, paper):
    """The first unlike inputs of two states with one digest, in the order of point 21."""
    pairs = [(plain_state_input(tree), plain_state_input(paper))]

    def add(one, other):
        if "pruned" not in (one[0], other[0]):
            pairs.append((plain_input(one), plain_input(other)))
            if one[0] == other[0] == "node":
                add(one[5], other[5])
                add(one[6], other[6])

    if tree is not None and paper is not None:
        add(tree, paper)
    return next((pair for pair in pairs if pair[0] != pair[1]), None)


def is_plainly_of(tree, paper):
    """Whether a paper's tree comes from a tree by replacing parts by their pruned parts."""
    if tree is None or paper is None:
        return tree is None and paper is None
    if paper == tree or paper == plain_pruned(tree):
        return True
    return (paper[0] == tree[0] == "node" and paper[:5] == tree[:5]
            and is_plainly_of(tree[5], paper[5]) and is_plainly_of(tree[6], paper[6]))


def spoilt(dice, parts):
    """A paper with one part told otherwise."""
    parts = list(parts)
    place = dice.randrange(len(parts))
    part = parts[place]
    if part[0] == "leaf":
        parts[place] = dice.choice([("leaf", dice.choice(some_keys(dice.random(), 5)), part[2]),
                                    ("leaf", part[1], some_spans(dice.random(), 2) or DAYS),
                                    ("pruned", 1, key_octets(part[1]), key_octets(part[1]), dice.randint(0, 50))])
    elif part[0] == "pruned":
        parts[place] = dice.choice([part[:4] + (dice.randint(0, 50),),
                                    ("pruned", part[1] + (part[1] > 1)) + part[2:],
                                    part[:4] + (part[4] + 5,)])
    return parts


class Clashes(unittest.TestCase):
    def check(self, hasher, tree, paper):
        """What is found, after comparing it with a plain reckoning; both have the same digest."""
        clash = find_clash(hasher, tree, paper)
        self.assertEqual(clash, plain_clash(tree, paper))
        if clash is None:
            self.assertTrue(is_plainly_of(tree, paper) or is_plainly_of(paper, tree))
            return None
        self.assertIs(type(clash), tuple)
        one, other = clash
        self.assertNotEqual(one, other)
        self.assertEqual(plain_digest(hasher, one), plain_digest(hasher, other))
        self.assertIn(one, [plain_state_input(tree)] + [plain_input(part) for part in subtrees(tree)
                                                       if part[0] != "pruned"])
        return clash

    def test_forged_papers(self):
        kinds = {}
        for seed in range(3000):
            dice = random.Random(seed)
            hasher = Hasher(dice.choice([2, 3, 5, 7]), dice.choice([1, 2, 3, 4]))
            held = some_entries(seed % 20, dice.randint(1, 8))
            tree = tree_of(hasher, list(held.items()))
            parts = paper_of(prune(tree, some_ranges(seed, list(held), 2)))
            try:
                paper = tree_of_paper(hasher, spoilt(dice, parts))
            except BadPaper:
                continue
            if root(hasher, paper) != root(hasher, tree):
                self.assertIsNone(find_clash(hasher, tree, paper))
                self.assertIsNone(find_clash(hasher, paper, tree))
                continue
            clash = self.check(hasher, tree, paper)
            back = find_clash(hasher, paper, tree)
            self.assertEqual(back, None if clash is None else clash[::-1])
            if clash is None:
                self.assertTrue(is_plainly_of(tree, paper))
            kind = None if clash is None else clash[0][0]
            kinds[kind] = kinds.get(kind, 0) + 1
        # Inputs of states, of nodes and of leaves clash, and some papers are spoilt to true ones.
        for kind in (3, 1, 0, None):
            self.assertGreater(kinds[kind], 5, kinds)

    def test_leaves_with_other_days(self):
        for modulus in (2, 5, 31):
            hasher = Hasher(modulus, 3)
            tree = tree_of(hasher, [((name,), DAYS) for name in "abcde"])
            for part in subtrees(tree):
                if part[0] != "leaf":
                    continue
                days = [((0, stop),) for stop in range(6, 500)]
                forged = [spans for spans in days if tree_of(hasher, [(part[5], spans)])[4] == part[4]]
                paper = [("leaf", part[5], forged[0]) if told == ("leaf", part[5], DAYS) else told
                         for told in paper_of(tree)]
                found = self.check(hasher, tree, tree_of_paper(hasher, paper))
                self.assertEqual(found[0], plain_input(part))
                self.assertEqual(found[1][-2:], list(forged[0][0]))

    def test_of_two_forged_leaves_the_left_one_is_told(self):
        hasher = Hasher(5, 3)
        tree = tree_of(hasher, [((name,), DAYS) for name in "abcd"])
        paper = [("leaf", part[1], ((0, 5 + 5 * 15),)) if part[0] == "leaf" else part for part in paper_of(tree)]
        other = tree_of_paper(hasher, paper)
        self.assertEqual(root(hasher, tree), root(hasher, other))
        self.assertEqual(self.check(hasher, tree, other)[0], [0, 4, 2, 97, 0, 0, 1, 0, 5])

    def test_a_pruned_part_with_other_numbers(self):
        hasher = Hasher(7, 3)
        tree = tree_of(hasher, [((name,), DAYS) for name in "abcd"])
        forged = plain_pruned(tree)[:4] + (tree[4] + 7,)
        found = self.check(hasher, tree, tree_of_paper(hasher, [forged]))
        self.assertEqual(found, (plain_state_input(tree), plain_state_input(forged)))
        node = tree[:5] + (plain_pruned(tree[5])[:4] + (tree[5][4] + 7,), tree[6])
        other = tree_of_paper(hasher, paper_of(node))
        self.assertEqual(self.check(hasher, tree, other), (plain_input(tree), plain_input(node)))

    def test_own_papers(self):
        for seed in range(40):
            for hasher in (HASHER, Hasher(3, 2), Hasher(2, 1)):
                held = some_entries(seed, seed + 1)
                tree = tree_of(hasher, list(held.items()))
                keys = list(held)[:2] + some_keys(seed, 2)
                for paper in (tree, prune(tree, some_ranges(seed, keys, 3)), prune(tree, []), prune_for(tree, keys)):
                    self.assertIsNone(find_clash(hasher, tree, tree_of_paper(hasher, paper_of(paper))))
                    self.assertIsNone(find_clash(hasher, paper, tree))

    def test_states_with_other_digests(self):
        for seed in range(20):
            one = tree_of(HASHER, list(some_entries(seed, 5).items()))
            other = tree_of(HASHER, list(some_entries(seed + 1, 6).items()))
            self.assertIsNone(find_clash(HASHER, one, other))
            self.assertIsNone(find_clash(HASHER, one, None))
            self.assertIsNone(find_clash(HASHER, None, one))

    def test_empty_trees(self):
        for hasher in (HASHER, Hasher(2, 1)):
            self.assertIsNone(find_clash(hasher, None, None))
        hasher = Hasher(2, 1)
        for stop in (5, 6):
            tree = tree_of(hasher, [(("a",), ((0, stop),))])
            same = root(hasher, tree) == root(hasher, None)
            self.assertEqual(find_clash(hasher, tree, None), (plain_state_input(tree), [2]) if same else None)
            self.assertEqual(find_clash(hasher, None, tree), ([2], plain_state_input(tree)) if same else None)
        forged = [tree_of(hasher, [(key, DAYS)]) for key in some_keys(1, 9)]
        self.assertTrue(any(find_clash(hasher, None, tree) == ([2], plain_state_input(tree)) for tree in forged))

    def test_trees_of_thousands_of_nodes_one_below_the_other(self):
        paper = deep_paper()
        hasher = Hasher(5, 3)
        tree = tree_of_paper(hasher, paper)
        self.assertIsNone(find_clash(hasher, tree, tree_of_paper(hasher, paper)))
        forged = paper[:-1] + [("leaf", paper[-1][1], ((0, 9995),))]
        one, other = find_clash(hasher, tree, tree_of_paper(hasher, forged))
        self.assertEqual((one[-1], other[-1]), (10000, 9995))
        self.assertEqual(hasher.digest(one), hasher.digest(other))


if __name__ == "__main__":
    unittest.main()
