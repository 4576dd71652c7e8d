"""Keepers, who do deeds and answer about what was known behind each number of them."""

from askedthen.answering import answer, needs
from askedthen.deeds import check_deed
from askedthen.errors import NoSuchDeed, TooManyDeeds
from askedthen.knowing import Knowledge, row_entries
from askedthen.papers import paper_of
from askedthen.pruning import prune, prune_for
from askedthen.rows import DigestRow
from askedthen.trees import TreeSource, put_all, root
from askedthen.values import is_number

_MOST_DEEDS = 500


class Keeper:
    """Does deeds, numbered from 1, and keeps what was known behind each number of them."""

    def __init__(self, schema, hasher):
        self._knowledge = Knowledge(schema)
        self._schema = schema
        self._hasher = hasher
        self._deeds = []
        # For each deed the entries that it changed.
        self._changed = []
        # Trees are never changed, so what is done later does not change those that are kept here.
        self._trees = [None]
        self._row = DigestRow(hasher)
        self._row.append(self.digest(0))

    def record(self, deed):
        """Do a deed; return its number. Raises the errors of check_deed, then TooManyDeeds."""
        check_deed(self._schema, deed)
        if len(self._deeds) == _MOST_DEEDS:
            raise TooManyDeeds("no further deed is done")
        changed = []
        for table, row, spans in self._knowledge.apply(deed):
            changed.extend(row_entries(self._schema, table, row, spans))
        self._deeds.append(deed)
        self._changed.append(changed)
        self._trees.append(put_all(self._hasher, self._trees[-1], changed))
        number = len(self._deeds)
        self._row.append(self.digest(number))
        return number

    def deeds(self):
        """The list of all deeds."""
        return list(self._deeds)

    def days(self, table, row):
        """The spans of a row, as known behind all deeds."""
        return self._knowledge.days(table, row)

    def tree(self, number):
        """The tree behind so many deeds; raises NoSuchDeed(number)."""
        self._check_number(number)
        return self._trees[number]

    def _check_number(self, number):
        """Raise NoSuchDeed(number) unless so many deeds were done."""
        if not is_number(number, len(self._deeds)):
            raise NoSuchDeed(number)

    def digest(self, number):
        """The digest of the state behind so many deeds; raises NoSuchDeed(number)."""
        return root(self._hasher, self.tree(number))

    def ask(self, question, number):
        """The answer to a question about the state behind so many deeds, and its paper.

        Raises NoSuchDeed, then BadQuestion.
        """
        tree = self.tree(number)
        rows = answer(question, self._schema, TreeSource(tree))
        return (rows, paper_of(prune(tree, needs(question, self._schema))))

    def changes(self, number):
        """The entries that a deed changed, and the paper of the state before that suffices for putting them.

        Raises NoSuchDeed(number) unless the deed with this number was done.
        """
        self._check_number(number)
        if number == 0:
            raise NoSuchDeed(number)
        changed = self._changed[number - 1]
        before = self._trees[number - 1]
        return (list(changed), paper_of(prune_for(before, [key for key, spans in changed])))

    def row_digest(self):
        """The digest of the row of the digests behind 0, 1, 2 and more deeds."""
        return self._row.digest()

    def inclusion(self, number):
        """The paper that the digest behind so many deeds stands in its place of the row; raises NoSuchDeed."""
        self._check_number(number)
        return self._row.inclusion(number)

    def extension(self, number):
        """The paper that the row extends that of the digests behind 0 to so many deeds; raises NoSuchDeed."""
        self._check_number(number)
        return self._row.extension(number + 1)
