"""What is known behind deeds."""

from askedthen.deeds import check_deed
from askedthen.octets import key_octets
from askedthen.schemas import check_schema, columns_of, is_row
from askedthen.spans import NEVER, less, unite
from askedthen.values import in_order
from askedthen.words import words_of


def row_entries(schema, table, row, spans):
    """The entries of a row with these days: its own, then those of its words, by column."""
    entries = [(("t", table) + row, spans)]
    for value, (name, kind) in zip(row, columns_of(schema, table)):
        if kind == "text":
            for word in words_of(value):
                entries.append((("w", table, name, word) + row, spans))
    return entries


class Knowledge:
    """What is known: on which days each row of each table holds."""

    def __init__(self, schema):
        check_schema(schema)
        self._schema = schema
        # For each table the spans of its rows that hold on some day, by row.
        self._known = {table[0]: {} for table in schema}

    def apply(self, deed):
        """Do a deed; return the rows whose days changed, (table, row, spans), in their order."""
        check_deed(self._schema, deed)
        word = deed[0]
        table = deed[1]
        done = (deed[-2:],)
        changed = []
        for row in self._touched(deed):
            before = self._known[table].get(row, NEVER)
            after = unite(before, done) if word == "keep" else less(before, done)
            if after != before:
                self._set(table, row, after)
                changed.append((table, row, after))
        return changed

    def _touched(self, deed):
        """The rows that a deed speaks of, in their order."""
        if deed[0] == "clear":
            return in_order(list(self._known[deed[1]]))
        return [deed[2]]

    def _set(self, table, row, spans):
        if spans == NEVER:
            del self._known[table][row]
        else:
            self._known[table][row] = spans

    def days(self, table, row):
        """The spans of a row, () for a row or a table that is not there."""
        columns = columns_of(self._schema, table)
        # To a dict True is 1, so what is no row of the table is not looked up.
        if columns is None or not is_row(columns, row):
            return NEVER
        return self._known[table].get(row, NEVER)

    def rows(self, table):
        """The pairs (row, spans) of the rows of a table that hold on some day, in order."""
        if columns_of(self._schema, table) is None:
            return []
        known = self._known[table]
        return [(row, known[row]) for row in in_order(list(known))]

    def entries(self):
        """The list of all entries, in the order of their keys."""
        found = []
        for name, rows in self._known.items():
            for row, spans in rows.items():
                found.extend(row_entries(self._schema, name, row, spans))
        return sorted(found, key=_entry_order)


def _entry_order(entry):
    return key_octets(entry[0])
