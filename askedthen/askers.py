"""Askers, who know the digest of a row of digests and nothing else of the state."""

from askedthen.errors import BadPaper, InvalidArgument, Unknown
from askedthen.judging import judge
from askedthen.papers import tree_of_paper
from askedthen.rows import extended_digests, included_digest
from askedthen.trees import put_all, root
from askedthen.values import is_number


class Asker:
    """Knows a row digest, `row`, of `size` digests."""

    def __init__(self, hasher, schema, row, size):
        if size < 1:
            raise InvalidArgument("size")
        self._hasher = hasher
        self._schema = schema
        self.row = row
        self.size = size

    def learn(self, row, size, paper):
        """Whether a later row is taken by its extension paper; then it is known."""
        if size < self.size:
            return False
        if extended_digests(self._hasher, self.size, size, paper) != (self.row, row):
            return False
        self.row = row
        self.size = size
        return True

    def takes_state(self, number, digest, paper):
        """Whether a digest is taken, by an inclusion paper, as that behind so many deeds."""
        if not is_number(number, self.size - 1):
            return False
        return included_digest(self._hasher, self.size, number, digest, paper) == self.row

    def takes(self, question, rows, parts, state):
        """Whether an answer is taken with a paper; `state` is (number, digest, inclusion paper).

        Raises BadQuestion if the digest is taken.
        """
        number, digest, paper = state
        if not self.takes_state(number, digest, paper):
            return False
        return judge(self._hasher, self._schema, digest, question, rows, parts)

    def takes_change(self, before, after, changes, parts):
        """Whether changes, a list of (key, spans), are taken with a paper of the state before them."""
        try:
            tree = tree_of_paper(self._hasher, parts)
            if root(self._hasher, tree) != before:
                return False
            return root(self._hasher, put_all(self._hasher, tree, changes)) == after
        except (BadPaper, Unknown):
            return False


def digest_after(hasher, changes, parts):
    """The digest of the state behind changes, by a paper of the state before; raises BadPaper, Unknown."""
    return root(hasher, put_all(hasher, tree_of_paper(hasher, parts), changes))
