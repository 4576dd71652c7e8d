"""What questions mean on a day."""

from askedthen.questions import columns, parts_of, told_of
from askedthen.schemas import place_of
from askedthen.values import compares, in_order, reduced
from askedthen.wishes import fulfils


def meaning(question, schema, tables):
    """The list of the rows that a question means on a day, in order; raises BadQuestion.

    `tables` is a dict from the name of each table to the list of its rows on this day.
    """
    columns(question, schema)
    return in_order(_rows(question, schema, tables))


def _rows(question, schema, tables):
    """The list of the rows that a question means, each once."""
    word = question[0]
    if word == "table":
        return _unlike(tables[question[1]])
    if word == "found":
        place = place_of(columns(question, schema), question[2])
        return _unlike([row for row in tables[question[1]] if fulfils(row[place], question[3])])
    given = [_rows(part, schema, tables) for part in parts_of(question)]
    given.extend(told_of(question, schema))
    mean = _MEANINGS[word]
    return _unlike(mean(*given))


def _unlike(rows):
    """The rows of a list, each once."""
    return list({row: True for row in rows})


def _groups(rows, places):
    """A dict from the values at these indices to the list of the rows that have them."""
    groups = {}
    for row in rows:
        groups.setdefault(reduced(row, places), []).append(row)
    return groups


# One function for each word: it takes the rows of the parts and what `told_of` tells, and returns
# rows, in which one can stand several times.


def _picked(rows, place, comparison, value):
    return [row for row in rows if compares(row[place], comparison, value)]


def _picked_same(rows, place, other):
    return [row for row in rows if row[place] == row[other]]


def _kept(rows, places):
    return [reduced(row, places) for row in rows]


def _named(rows):
    return rows


def _combined(first, second, common, others):
    groups = _groups(second, [pair[1] for pair in common])
    places = [pair[0] for pair in common]
    return [row + reduced(other, others) for row in first for other in groups.get(reduced(row, places), [])]


def _united(first, second):
    return first + second


def _lessened(first, second):
    without = {row: True for row in second}
    return [row for row in first if row not in without]


def _counted(rows, places):
    groups = _totalled_groups(rows, places)
    return [group + (len(groups[group]),) for group in groups]


def _summed(rows, places, place):
    groups = _totalled_groups(rows, places)
    return [group + (sum([row[place] for row in groups[group]]),) for group in groups]


def _totalled_groups(rows, places):
    """The groups of rows that are counted or summed up; without columns there is always one."""
    return _groups(rows, places) if len(places) > 0 else {(): rows}


_MEANINGS = {
    "pick": _picked, "same": _picked_same, "keep": _kept, "name": _named, "join": _combined,
    "unite": _united, "less": _lessened, "count": _counted, "sum": _summed,
}
