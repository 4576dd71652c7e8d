"""Answers to questions, for all days at once, and what they need."""

from askedthen.octets import range_of
from askedthen.questions import columns, parts_of, told_of
from askedthen.relations import combined, counted, kept, lessened, picked, picked_same, summed, united
from askedthen.schemas import columns_of
from askedthen.spans import holds
from askedthen.wishes import found, wish_ranges


def answer(question, schema, source):
    """The answer to a question, the list of pairs (row, spans); raises BadQuestion, then Unknown."""
    told = {}
    # Each range is asked for once, whatever the others tell.
    for first, last in needs(question, schema):
        told[(first, last)] = source.entries(first, last)
    return _relation(question, schema, ToldSource(told))


class ToldSource:
    """A source that knows the entries of some ranges, a dict from them, and of no others."""

    def __init__(self, told):
        self._told = told

    def entries(self, first, last):
        """The list of the entries of a range."""
        return self._told[(first, last)]


def _relation(question, schema, source):
    """The relation that a question means."""
    word = question[0]
    if _is_chain(question):
        return _chain_relation(question, schema, source)
    if word == "found":
        return found(question[3], question[1], question[2], source)
    given = [_relation(part, schema, source) for part in parts_of(question)]
    given.extend(told_of(question, schema))
    return _made(word, given)


def _made(word, given):
    """The relation that a word makes of the relations of its parts, and of what else is told."""
    if word == "pick":
        return picked(*given)
    if word == "same":
        return picked_same(*given)
    if word == "keep":
        return kept(*given)
    if word == "join":
        return combined(*given)
    if word == "unite":
        return united(*given)
    if word == "less":
        return lessened(*given)
    if word == "count":
        return counted(*given)
    if word == "sum":
        return summed(*given)
    # What is left is `name`, which means the same rows.
    return given[0]


def _is_chain(question):
    """Whether a question is a table, or a pick whose part is a chain."""
    return _chain_of(question)[0][0] == "table"


def _chain_of(question):
    """The list of the question below all picks in front, and of these picks, the innermost first."""
    chain = [question]
    while chain[-1][0] == "pick":
        chain.append(chain[-1][1])
    return chain[::-1]


def _chain_relation(question, schema, source):
    """The relation that a chain means."""
    first, last = _chain_range(question, schema)
    # In the key of a row two values stand ahead of it.
    relation = [(key[2:], spans) for key, spans in source.entries(first, last)]
    for pick in _chain_of(question)[1:]:
        place, comparison, value = told_of(pick, schema)
        relation = picked(relation, place, comparison, value)
    return relation


def _chain_range(question, schema):
    """The range that a chain needs."""
    table, *picks = _chain_of(question)
    values = ["t", table[1]]
    for column in columns_of(schema, table[1]):
        given = [pick[4] for pick in picks if pick[2] == column[0] and pick[3] == "="]
        if given == []:
            break
        values.append(given[0])
    return range_of(values)


def needs(question, schema):
    """The list of the ranges that a question needs, each once; raises BadQuestion."""
    columns(question, schema)
    # A dict keeps the order in which its keys were added.
    return list({asked: True for asked in _ranges(question, schema)})


def _ranges(question, schema):
    """The ranges that a question needs, as they come."""
    if _is_chain(question):
        return [_chain_range(question, schema)]
    if question[0] == "found":
        return wish_ranges(question[3], question[1], question[2])
    return [asked for part in parts_of(question) for asked in _ranges(part, schema)]


def rows_on(rows, day):
    """The list of the rows of an answer that it has on a day, in order."""
    return [row for row, spans in rows if holds(spans, day)]
