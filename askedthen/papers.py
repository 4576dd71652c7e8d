"""Papers: trees as lists of their parts, which can come from anybody."""

from askedthen.errors import BadPaper
from askedthen.octets import are_key_octets, first_bit, is_key
from askedthen.spans import NEVER, are_spans
from askedthen.trees import COUNT, HIGH, KEY, LEFT, LOW, RIGHT, SPANS, leaf_of, node_of
from askedthen.values import is_number

_MOST_ENTRIES = 999999
# 2^31.
_MOST_DIGEST = 2147483648


def paper_of(tree):
    """The paper of a tree: its parts in preorder."""
    parts = []
    todo = [] if tree is None else [tree]
    while todo:
        part = todo.pop()
        if part[0] == "node":
            parts.append(("node",))
            todo.append(part[RIGHT])
            todo.append(part[LEFT])
        elif part[0] == "leaf":
            parts.append(("leaf", part[KEY], part[SPANS]))
        else:
            parts.append(part)
    return parts


def tree_of_paper(hasher, parts):
    """The tree of a list of any values; raises BadPaper(place) if they are not a paper."""
    # A paper can come from anybody, so it need not even be a list.
    if not isinstance(parts, list):
        raise BadPaper(0)
    for place, part in enumerate(parts):
        if not _is_valid(part):
            raise BadPaper(place)
    # Read from the last part to the first, so the children of a node are there before it.
    trees = []
    for place in reversed(range(len(parts))):
        part = parts[place]
        if part[0] == "leaf":
            trees.append(leaf_of(hasher, part[1], part[2]))
        elif part[0] == "pruned":
            trees.append(part)
        elif len(trees) < 2 or not _can_be_children(trees[-1], trees[-2]):
            raise BadPaper(place)
        else:
            left = trees.pop()
            right = trees.pop()
            trees.append(node_of(hasher, left, right))
    if len(trees) > 1:
        raise BadPaper(len(parts))
    return trees[0] if trees else None


def _is_valid(part):
    """Whether this is a valid part; anything can be handed in."""
    if not isinstance(part, tuple) or part == () or not isinstance(part[0], str):
        return False
    if part[0] == "node":
        return len(part) == 1
    if part[0] == "leaf":
        return len(part) == 3 and is_key(part[1]) and are_spans(part[2]) and part[2] != NEVER
    return part[0] == "pruned" and len(part) == 5 and _is_summary(part[1], part[2], part[3], part[4])


def _is_summary(count, low, high, digest):
    if not is_number(count, _MOST_ENTRIES) or count == 0 or not is_number(digest, _MOST_DIGEST):
        return False
    if not are_key_octets(low) or not are_key_octets(high):
        return False
    return low == high if count == 1 else low < high


def _can_be_children(left, right):
    """Whether two trees can be the left and the right child of a node."""
    if left[LOW] >= right[HIGH]:
        return False
    apart = first_bit(left[LOW], right[HIGH])
    return all(tree[COUNT] == 1 or first_bit(tree[LOW], tree[HIGH]) > apart for tree in (left, right))
