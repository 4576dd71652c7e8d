"""The judge, who takes answers by their papers."""

from askedthen.answering import answer
from askedthen.errors import BadPaper, Unknown
from askedthen.octets import is_key
from askedthen.papers import tree_of_paper
from askedthen.questions import columns
from askedthen.schemas import columns_of, is_row, place_of
from askedthen.trees import TreeSource, root
from askedthen.words import is_word


def fits(schema, key):
    """Whether a key is that of an entry under a schema."""
    if not is_key(key) or len(key) < 2:
        return False
    there = columns_of(schema, key[1])
    if there is None:
        return False
    if key[0] == "w":
        return _is_word_of(there, key[2:4]) and is_row(there, key[4:])
    return key[0] == "t" and is_row(there, key[2:])


def _is_word_of(there, pair):
    """Whether this is a text column among these columns, and a word."""
    if len(pair) != 2 or not is_word(pair[1]):
        return False
    place = place_of(there, pair[0])
    return place is not None and there[place][1] == "text"


def judge(hasher, schema, digest, question, rows, parts):
    """Whether an answer is taken with a paper against the digest of a state.

    Anything can be handed in as the answer, and as the paper. Raises BadQuestion, and nothing else.
    """
    columns(question, schema)
    try:
        tree = tree_of_paper(hasher, parts)
        if root(hasher, tree) != digest or not _do_fit(schema, parts):
            return False
        return _is_just(rows, answer(question, schema, TreeSource(tree)))
    except (BadPaper, Unknown):
        return False


def _do_fit(schema, parts):
    """Whether the key of each leaf of a paper that can be read is that of an entry."""
    return all(fits(schema, part[1]) for part in parts if part[0] == "leaf")


def _is_just(value, told):
    """Whether anything is what is told, which is made of lists, tuples, numbers and texts."""
    # To Python a number is equal to a bool and to a float, too, and an object can be equal to anything.
    if type(value) is type(told):
        if isinstance(told, (list, tuple)):
            return len(value) == len(told) and all([_is_just(one, other) for one, other in zip(value, told)])
        return value == told
    return False
