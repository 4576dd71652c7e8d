"""Pruned trees: trees in which only a part is told, with the same digest."""

from askedthen.octets import key_octets
from askedthen.trees import LEFT, RIGHT, goes_on, is_outside, pruned_part


def prune(tree, ranges):
    """The tree pruned for a list of ranges."""
    return _pruned(tree, ranges, _touches)


def _touches(tree, asked):
    first, last = asked
    return not is_outside(tree, first, last)


def prune_for(tree, keys):
    """The tree pruned for a list of keys: they can be put into it, in any order.

    Raises Unknown if a way comes to a pruned part at which it cannot go on.
    """
    return _pruned(tree, [key_octets(key) for key in keys], goes_on)


def _pruned(tree, wanted, is_needed):
    """The tree in which just those parts stay that something wanted needs.

    `is_needed(part, one)` tells whether one thing that is wanted needs a part; what does not need a
    node needs nothing below it.
    """
    if tree is None:
        return None
    kept = []
    todo = [(tree, wanted)]
    while todo:
        part, above = todo.pop()
        needing = [one for one in above if is_needed(part, one)]
        if needing == []:
            kept.append(pruned_part(part))
            continue
        kept.append(part)
        if part[0] == "node":
            todo.append((part[RIGHT], needing))
            todo.append((part[LEFT], needing))
    return _put_together(kept)


def _put_together(parts):
    """The tree of its parts in preorder; the nodes among them get their children anew."""
    trees = []
    for part in parts[::-1]:
        if part[0] == "node":
            left = trees.pop()
            right = trees.pop()
            trees.append(part[:LEFT] + (left, right))
        else:
            trees.append(part)
    return trees.pop()
