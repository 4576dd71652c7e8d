"""Clashes of trees: unlike inputs with the same digest."""

from askedthen.trees import LEFT, RIGHT, input_of, root, state_input


def find_clash(hasher, tree, paper):
    """Two unlike inputs with the same digest, the one of the first tree first, or None.

    None if the digests of the two states differ, or if nothing unlike is found.
    """
    if root(hasher, tree) != root(hasher, paper):
        return None
    one = state_input(tree)
    other = state_input(paper)
    if one != other:
        return (one, other)
    return None if tree is None else _find_below(tree, paper)


def _find_below(tree, paper):
    """The first clash, in preorder, of two trees that have the same summary."""
    todo = [(tree, paper)]
    while todo:
        first, second = todo.pop()
        if first[0] == "pruned" or second[0] == "pruned":
            continue
        one = input_of(first)
        other = input_of(second)
        if one != other:
            return (one, other)
        # Equal inputs tell of two leaves, or of two nodes whose children have the same summaries.
        if first[0] == "node":
            todo.append((first[RIGHT], second[RIGHT]))
            todo.append((first[LEFT], second[LEFT]))
    return None
