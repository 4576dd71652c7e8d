"""Trees of states: search trees over the bits of the octets of keys.

A tree is None, ("leaf", 1, low, high, digest, key, spans), ("node", count, low, high, digest, left,
right) or ("pruned", count, low, high, digest). It can be some thousands of nodes deep, so trees are
gone through by lists of what is still to do, not by recursion.
"""

from askedthen.errors import Unknown
from askedthen.octets import first_bit, has_bit, key_octets
from askedthen.spans import NEVER

# The places of what each tree tells, then of what a node tells, then of what a leaf tells.
COUNT = 1
LOW = 2
HIGH = 3
DIGEST = 4
LEFT = 5
RIGHT = 6
KEY = 5
SPANS = 6


def leaf_of(hasher, key, spans):
    """The tree of a single entry."""
    octets = key_octets(key)
    digest = hasher.digest(_leaf_input(octets, spans))
    return ("leaf", 1, octets, octets, digest, key, spans)


def node_of(hasher, left, right):
    """The tree of two trees that can be the children of a node."""
    digest = hasher.digest(_node_input(left, right))
    return ("node", left[COUNT] + right[COUNT], left[LOW], right[HIGH], digest, left, right)


def pruned_part(tree):
    """The pruned part that stands for a tree that is not empty."""
    return ("pruned", tree[COUNT], tree[LOW], tree[HIGH], tree[DIGEST])


def input_of(tree):
    """The input of a leaf or a node."""
    if tree[0] == "leaf":
        return _leaf_input(tree[LOW], tree[SPANS])
    return _node_input(tree[LEFT], tree[RIGHT])


def _leaf_input(octets, spans):
    return [0, len(octets), *octets, len(spans)] + [point for pair in spans for point in pair]


def _node_input(left, right):
    return [1] + _summary(left) + _summary(right)


def _summary(tree):
    return [tree[COUNT], len(tree[LOW]), *tree[LOW], len(tree[HIGH]), *tree[HIGH], tree[DIGEST]]


def state_input(tree):
    """The input of the state with this tree."""
    if tree is None:
        return [2]
    return [3] + _summary(tree)


def root(hasher, tree):
    """The digest of the state with this tree."""
    return hasher.digest(state_input(tree))


def goes_on(tree, octets):
    """Whether the way to a key goes on from a tree that is not empty to one of its children.

    Raises Unknown at a pruned part at which it cannot go on.
    """
    if tree[COUNT] == 1:
        return False
    apart = first_bit(octets, tree[LOW])
    if apart is not None and apart < first_bit(tree[LOW], tree[HIGH]):
        return False
    if tree[0] == "pruned":
        raise Unknown("the way to a key comes to a pruned part")
    return True


def put(hasher, tree, key, spans):
    """The tree after putting a key with days; with no days the key is taken out."""
    octets = key_octets(key)
    way = []
    part = tree
    while part is not None and goes_on(part, octets):
        right = has_bit(octets, first_bit(part[LOW], part[HIGH]))
        way.append((part, right))
        part = part[RIGHT] if right else part[LEFT]
    return _put_back(hasher, way, _put_at_end(hasher, part, key, spans))


def _put_at_end(hasher, tree, key, spans):
    """What takes the place of the tree at the end of the way to a key; None if nothing does."""
    octets = key_octets(key)
    is_there = tree is not None and tree[LOW] == octets
    if spans == NEVER:
        return None if is_there else tree
    leaf = leaf_of(hasher, key, spans)
    if tree is None or is_there:
        return leaf
    if tree[LOW] < octets:
        return node_of(hasher, tree, leaf)
    return node_of(hasher, leaf, tree)


def _put_back(hasher, way, tree):
    """The whole tree, by the nodes of a way, each with whether it went right, and the tree at its end."""
    for node, right in way[::-1]:
        if tree is None:
            # The key was taken out, so its sibling takes the place of their node.
            tree = node[LEFT] if right else node[RIGHT]
        elif right:
            tree = node_of(hasher, node[LEFT], tree)
        else:
            tree = node_of(hasher, tree, node[RIGHT])
    return tree


def tree_of(hasher, rows):
    """The tree after putting each entry (key, spans) of a list into the empty tree, in order."""
    return put_all(hasher, None, rows)


def put_all(hasher, tree, rows):
    """The tree after putting each entry (key, spans) of a list into a tree, in order."""
    for key, spans in rows:
        tree = put(hasher, tree, key, spans)
    return tree


def is_outside(tree, first, last):
    """Whether a tree that is not empty is outside a range."""
    return tree[HIGH] < first or tree[LOW] >= last


def entries(tree, first, last):
    """The list of the entries (key, spans) of a range, in the order of their keys.

    Raises Unknown if a pruned part is not outside the range.
    """
    told = []
    todo = [] if tree is None else [tree]
    while todo:
        part = todo.pop()
        if is_outside(part, first, last):
            continue
        if part[0] == "pruned":
            raise Unknown("a pruned part is not outside the range")
        if part[0] == "leaf":
            told.append((part[KEY], part[SPANS]))
        else:
            todo.append(part[RIGHT])
            todo.append(part[LEFT])
    return told


class TreeSource:
    """A source that tells the entries of a tree."""

    def __init__(self, tree):
        self._tree = tree

    def entries(self, first, last):
        """The list of the entries of a range, in the order of their keys."""
        return entries(self._tree, first, last)
