import itertools
import random
import unittest

from askedthen.errors import AskError, BadPaper
from askedthen.hashing import Hasher
from askedthen.octets import key_octets, range_of_key
from askedthen.papers import paper_of, tree_of_paper
from askedthen.pruning import prune, prune_for
from askedthen.trees import entries, put, root, tree_of
from plain_trees import (bits, deep_paper, plain_first_bit, plain_pruned, plain_tree, some_entries, some_keys,
                         some_ranges, subtrees)
from samples import ODD, Same, Sour
from test_octets import plain_octets

HASHER = Hasher(2 ** 31 - 1, 1000003)
SMALL = Hasher(5, 2)
DAYS = ((0, 5),)
A, B, C, D, E = [key_octets((name,)) for name in "abcde"]
NODE = ("node",)
LEAF = ("leaf", ("b",), DAYS)

VALID = [
    NODE, LEAF, ("leaf", (0,) * 12, ((0, 10000),)), ("leaf", ("~" * 40, 999999), ((0, 1), (2, 3))),
    ("pruned", 1, A, A, 0), ("pruned", 1, A, A, 2 ** 31), ("pruned", 2, A, B, 2 ** 31 - 1),
    ("pruned", 999999, A, B, 7), ("pruned", 999999, plain_octets((0,)), plain_octets(("~" * 40,) * 12), 7),
]
BAD_KEYS = [(), (0,) * 13, ["b"], "b", "", 7, ("b", -1), ("b", 1000000), ("a" * 41,), ("\n",), ("\u00e9",),
            (("b",),), (["b"],), ("b", True), ("b", None)]
BAD_DAYS = [(), ((5, 5),), ((5, 4),), ((-1, 5),), ((0, 10001),), ((0, 5), (5, 6)), ((3, 4), (1, 2)), [(0, 5)],
            ([0, 5],), (0, 5), ((0, 5, 6),), ((0,),), ((False, 5),), ((0, True),), "", 0]
BAD_COUNTS = [0, -1, 1000000, 10 ** 30, "2", (), (2,), 2.0]
BAD_OCTETS = [(), (0,), (2, 97), (2, 97, 0), A + (0,), A[:-1], list(A), (2, 31, 0, 0), (2, 127, 0, 0),
              (1, 15, 66, 64, 0), (3, 0), (2, 256, 0, 0), (2, -97, 0, 0), (2, True, 0, 0), "ab", 7,
              (2, 0) * 13 + (0,), (1, False, 0, 0, 0)]
BAD_DIGESTS = [-1, 2 ** 31 + 1, 10 ** 30, -10 ** 30, "7", (), (7,), 7.0]
BAD_WORDS = ["Node", "nodes", "", "leaves", "prune", "root", 0, 1, (), ("node",)]


def invalid_parts():
    wrong = [(), ["node"], ["leaf", ("b",), DAYS], ["pruned", 1, A, A, 0], "node", "leaf", "pruned", "", 0, 7, -1,
             ("node", 1), ("node", None), ("leaf",), ("leaf", ("b",)), ("leaf", ("b",), DAYS, 1), ("pruned",),
             ("pruned", 1, A, A), ("pruned", 1, A, A, 0, 0), ("leaf", 1, B, B, 7, ("b",), DAYS),
             ("node", 2, A, B, 7, LEAF, LEAF)] + ODD
    wrong += [(word,) for word in BAD_WORDS + ODD]
    wrong += [(word, ("b",), DAYS) for word in BAD_WORDS + ODD]
    wrong += [(word, 2, A, B, 7) for word in BAD_WORDS + ODD]
    wrong += [("leaf", key, DAYS) for key in BAD_KEYS + ODD]
    wrong += [("leaf", ("b", value), DAYS) for value in ODD]
    wrong += [("leaf", ("b",), spans) for spans in BAD_DAYS + ODD]
    wrong += [("leaf", ("b",), ((0, value),)) for value in ODD]
    wrong += [("pruned", count, A, B, 7) for count in BAD_COUNTS + ODD]
    wrong += [("pruned", count, A, A, 7) for count in BAD_COUNTS + ODD]
    wrong += [("pruned", 2, low, B, 7) for low in BAD_OCTETS + ODD]
    wrong += [("pruned", 2, A, high, 7) for high in BAD_OCTETS + ODD]
    wrong += [("pruned", 1, octets, octets, 7) for octets in BAD_OCTETS + ODD]
    wrong += [("pruned", 2, A, B, digest) for digest in BAD_DIGESTS + ODD]
    wrong += [("pruned", 1, A, B, 7), ("pruned", 1, B, A, 7), ("pruned", 2, A, A, 7), ("pruned", 2, B, A, 7),
              ("pruned", 999999, A, A, 7)]
    return wrong


INVALID = invalid_parts()


def plain_fault(parts):
    """The place at which point 20 refuses parts that are all valid, or None."""
    stack = []
    for place in range(len(parts) - 1, -1, -1):
        part = parts[place]
        if part[0] == "leaf":
            stack.append((1, bits(plain_octets(part[1])), bits(plain_octets(part[1]))))
        elif part[0] == "pruned":
            stack.append((part[1], bits(part[2]), bits(part[3])))
        else:
            if len(stack) < 2:
                return place
            left, right = stack.pop(), stack.pop()
            if left[1] >= right[2]:
                return place
            apart = plain_first_bit(left[1], right[2])
            for count, low, high in (left, right):
                if count > 1 and low[:apart + 1] != high[:apart + 1]:
                    return place
            stack.append((left[0] + right[0], left[1], right[2]))
    return len(parts) if len(stack) > 1 else None


class Refusing(unittest.TestCase):
    def refused(self, parts, place):
        with self.assertRaises(AskError) as caught:
            tree_of_paper(HASHER, parts)
        self.assertIs(type(caught.exception), BadPaper)
        self.assertEqual(caught.exception.place, place)


class Back(unittest.TestCase):
    def there_and_back(self, hasher, tree):
        paper = paper_of(tree)
        self.assertIs(type(paper), list)
        self.assertEqual(tree_of_paper(hasher, paper), tree)
        self.assertEqual(paper_of(tree_of_paper(hasher, paper)), paper)
        return paper

    def test_the_empty_tree(self):
        self.assertEqual(paper_of(None), [])
        self.assertIsNone(tree_of_paper(HASHER, []))

    def test_given_trees(self):
        tree = tree_of(HASHER, [(("a",), DAYS), (("b",), DAYS), (("c",), DAYS)])
        self.assertEqual(paper_of(tree), [NODE, ("leaf", ("a",), DAYS), NODE, LEAF, ("leaf", ("c",), DAYS)])
        pruned = prune(tree, [range_of_key(("b",))])
        self.assertEqual(self.there_and_back(HASHER, pruned),
                         [NODE, plain_pruned(tree[5]), NODE, LEAF, plain_pruned(tree[6][6])])
        self.assertEqual(self.there_and_back(HASHER, plain_pruned(tree)), [plain_pruned(tree)])

    def test_whole_and_pruned_trees(self):
        for seed in range(60):
            for hasher in (HASHER, SMALL):
                held = some_entries(seed, 1 + seed // 2)
                tree = tree_of(hasher, list(held.items()))
                self.there_and_back(hasher, tree)
                keys = list(held)[:3] + some_keys(seed + 60, 2)
                self.there_and_back(hasher, prune(tree, some_ranges(seed, keys, 2)))
                self.there_and_back(hasher, prune_for(tree, keys))

    def test_preorder(self):
        for seed in range(20):
            tree = plain_tree(HASHER, some_entries(seed, 12))
            told = {"node": lambda part: NODE, "leaf": lambda part: ("leaf",) + part[5:]}
            self.assertEqual(paper_of(tree), [told[part[0]](part) for part in subtrees(tree)])

    def test_summaries_are_computed_anew(self):
        first, second = ("pruned", 999999, A, B, 2 ** 31), ("pruned", 999999, D, E, 5)
        tree = tree_of_paper(HASHER, [NODE, first, second])
        digest = HASHER.digest([1, 999999, 4] + list(A) + [4] + list(B) + [2 ** 31]
                               + [999999, 4] + list(D) + [4] + list(E) + [5])
        self.assertEqual(tree, ("node", 1999998, A, E, digest, first, second))

    def test_what_is_handed_in_stays(self):
        tree = plain_tree(HASHER, some_entries(3, 9))
        paper = paper_of(tree)
        given = list(paper)
        found = tree_of_paper(HASHER, paper)
        self.assertEqual(paper, given)
        paper.clear()
        self.assertEqual(found, tree)
        paper_of(tree).clear()
        self.assertEqual(paper_of(tree), given)

    def test_a_tree_of_thousands_of_nodes_one_below_the_other(self):
        paper = deep_paper()
        tree = tree_of_paper(HASHER, paper)
        self.assertEqual(paper_of(tree), paper)
        self.assertEqual(tree[1], 2881)
        self.assertEqual(len(entries(tree, (), (3,))), 2881)
        again = put(HASHER, put(HASHER, tree, paper[-1][1], ()), paper[-1][1], paper[-1][2])
        self.assertEqual(root(HASHER, again), root(HASHER, tree))


class Parts(Refusing):
    def test_valid_parts(self):
        for part in VALID[1:]:
            self.assertEqual(paper_of(tree_of_paper(HASHER, [part])), [part])
        # A node is a valid part: it is refused only when the parts behind it are read.
        self.refused([NODE, NODE], 1)

    def test_invalid_parts(self):
        for part in INVALID:
            self.refused([part], 0)
            self.refused([NODE, ("leaf", ("a",), DAYS), part], 2)
            self.refused([LEAF, LEAF, part, NODE], 2)

    def test_the_first_invalid_part_is_told(self):
        for one, other in itertools.product(INVALID[::7], INVALID[::5]):
            self.refused([NODE, one, other], 1)
            self.refused([NODE, LEAF, one, LEAF, other], 2)

    def test_an_invalid_part_is_told_ahead_of_other_faults(self):
        for part in INVALID[::3]:
            self.refused([LEAF, NODE, NODE, part], 3)
            self.refused([NODE, LEAF, ("leaf", ("a",), DAYS), LEAF, LEAF, part], 5)
            self.refused([part, NODE], 0)

    def test_other_things_as_parts(self):
        for thing in ODD + [Same(), Sour(), "node", ("node", "node"), (NODE,), [NODE]]:
            self.refused([thing], 0)

    def test_a_bool_is_no_number(self):
        self.refused([("pruned", True, A, A, 0)], 0)
        self.refused([("pruned", 1, A, A, True)], 0)
        self.refused([("pruned", 1, A, A, False)], 0)
        self.refused([("pruned", 1, (1, 0, 0, True, 0), (1, 0, 0, True, 0), 0)], 0)
        self.refused([("leaf", (True,), DAYS)], 0)
        self.refused([("leaf", (0,), ((False, True),))], 0)


class Reading(Refusing):
    def test_too_few_trees(self):
        self.refused([NODE], 0)
        self.refused([NODE, LEAF], 0)
        self.refused([LEAF, NODE], 1)
        self.refused([NODE, NODE, NODE], 2)
        self.refused([NODE, NODE, ("leaf", ("a",), DAYS), LEAF], 0)
        self.refused([NODE, LEAF, NODE, ("leaf", ("c",), DAYS)], 2)

    def test_too_many_trees(self):
        self.refused([LEAF, LEAF], 2)
        self.refused([LEAF, ("pruned", 2, A, B, 7), LEAF], 3)
        self.refused([LEAF, NODE, ("leaf", ("a",), DAYS), LEAF], 4)
        self.refused([NODE, ("leaf", ("a",), DAYS), LEAF, LEAF], 4)

    def test_children_in_the_wrong_order(self):
        leaves = [("leaf", (name,), DAYS) for name in "abc"]
        for one, other in itertools.product(range(3), repeat=2):
            if one < other:
                self.assertEqual(tree_of_paper(HASHER, [NODE, leaves[one], leaves[other]])[1], 2)
            else:
                self.refused([NODE, leaves[one], leaves[other]], 0)
        self.refused([NODE, leaves[0], NODE, leaves[2], leaves[1]], 2)
        self.refused([NODE, ("pruned", 1, B, B, 7), ("leaf", ("a",), DAYS)], 0)

    def test_children_that_cannot_stand_beside_each_other(self):
        def leaf(name):
            return ("leaf", (name,), DAYS)

        # The codes end in 001 (a), 010 (b), 011 (c) and 100 (d): a differs from b in the bit in which it
        # differs from c.
        self.refused([NODE, NODE, leaf("a"), leaf("b"), leaf("c")], 0)
        self.assertEqual(tree_of_paper(HASHER, [NODE, leaf("a"), NODE, leaf("b"), leaf("c")])[1], 3)
        self.assertEqual(tree_of_paper(HASHER, [NODE, NODE, leaf("b"), leaf("c"), leaf("d")])[1], 3)
        # A part that differs in a later bit only, in just this bit, and ahead of it.
        for pruned, fault in ((("pruned", 2, B, C, 7), None), (("pruned", 2, A, B, 7), None),
                              (("pruned", 2, C, D, 7), 0), (("pruned", 2, A, D, 7), 0),
                              (("pruned", 9, A, E, 7), 0)):
            parts = [NODE, pruned, leaf("f")]
            self.assertEqual(plain_fault(parts), fault, pruned)
            if fault is None:
                self.assertEqual(paper_of(tree_of_paper(HASHER, parts)), parts)
            else:
                self.refused(parts, fault)

    def test_parts_that_overlap(self):
        self.refused([NODE, ("pruned", 3, A, C, 7), ("pruned", 3, B, D, 7)], 0)
        self.refused([NODE, ("pruned", 3, A, D, 7), LEAF], 0)
        self.refused([NODE, LEAF, ("pruned", 3, A, D, 7)], 0)
        self.refused([NODE, ("pruned", 2, A, B, 7), ("pruned", 2, A, B, 7)], 0)
        # Each of them alone could be told apart from the other one, but both hold the same keys.
        self.refused([NODE, ("pruned", 2, C, D, 7), ("pruned", 2, A, B, 7)], 0)

    def test_all_pairs_of_pruned_parts(self):
        names = [key_octets((name,)) for name in ("", "a", "aa", "b", "c", "d", "p")] + [key_octets((0,))]
        pairs = [(low, high) for low in names for high in names if low <= high]
        seen = {True: 0, False: 0}
        for one, other in itertools.product(pairs, repeat=2):
            parts = [NODE] + [("pruned", 1 if low == high else 5, low, high, 7) for low, high in (one, other)]
            fault = plain_fault(parts)
            seen[fault is None] += 1
            if fault is None:
                self.assertEqual(paper_of(tree_of_paper(HASHER, parts)), parts)
            else:
                self.refused(parts, fault)
        self.assertGreater(min(seen.values()), 50)

    def test_spoilt_papers(self):
        faults = {}
        for seed in range(600):
            dice = random.Random(seed)
            held = some_entries(seed % 30, 8)
            tree = tree_of(HASHER, list(held.items()))
            parts = paper_of(prune(tree, some_ranges(seed, list(held), 2)) if dice.random() < 0.7 else tree)
            for _ in range(dice.randint(1, 2)):
                place, other = dice.randrange(len(parts)), dice.randrange(len(parts))
                kind = dice.randint(0, 4)
                if kind == 0:
                    parts[place], parts[other] = parts[other], parts[place]
                elif kind == 1 and len(parts) > 1:
                    del parts[place]
                elif kind == 2:
                    parts.insert(place, parts[other])
                elif kind == 3:
                    parts[place] = ("leaf", dice.choice(some_keys(seed, 3)), DAYS)
                else:
                    low, high = sorted(dice.sample([key_octets(key) for key in held], 2))
                    parts[place] = ("pruned", 3, low, high, 7)
            fault = plain_fault(parts)
            faults[fault is None, fault == len(parts)] = True
            if fault is None:
                self.assertEqual(paper_of(tree_of_paper(HASHER, parts)), parts)
            else:
                self.refused(parts, fault)
        self.assertEqual(len(faults), 3)

    def test_of_several_faults_the_last_node_is_told(self):
        wrong = [NODE, LEAF, LEAF]
        self.refused([NODE] + wrong + wrong, 4)
        self.refused([NODE] + [LEAF] + wrong, 2)
        self.refused([LEAF, LEAF] + wrong, 2)
        self.refused([NODE] + wrong, 1)


if __name__ == "__main__":
    unittest.main()
