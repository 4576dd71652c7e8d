"""Relations: rows with the days on which they are meant.

A relation is a list of pairs (row, spans) in the order of the rows, which are unlike; no spans are ().
"""

from askedthen.spans import ALWAYS, NEVER, joined, less, meet, pieces, points_of
from askedthen.values import compares, in_order, reduced


def collected(pairs):
    """The relation of pairs in any order, in which rows can stand several times and spans be ()."""
    days = {}
    for row, spans in pairs:
        days.setdefault(row, []).extend(spans)
    return [(row, joined(sorted(days[row]))) for row in in_order(list(days)) if days[row] != []]


def picked(relation, place, comparison, value):
    """The relation that `pick` makes."""
    return [(row, spans) for row, spans in relation if compares(row[place], comparison, value)]


def picked_same(relation, place, other):
    """The relation that `same` makes."""
    return [(row, spans) for row, spans in relation if row[place] == row[other]]


def kept(relation, places):
    """The relation that `keep` makes."""
    return collected([(reduced(row, places), spans) for row, spans in relation])


def combined(first, second, common, others):
    """The relation that `join` makes.

    `common` is the list of pairs of indices, in the first and in the second relation, of the common
    columns, `others` the list of the indices of the second one that are added.
    """
    ours = [pair[0] for pair in common]
    theirs = [pair[1] for pair in common]
    groups = {}
    for row, spans in second:
        groups.setdefault(reduced(row, theirs), []).append((row, spans))
    pairs = []
    for row, spans in first:
        for other, days in groups.get(reduced(row, ours), []):
            pairs.append((row + reduced(other, others), meet(spans, days)))
    return collected(pairs)


def united(first, second):
    """The relation that `unite` makes."""
    return collected(first + second)


def lessened(first, second):
    """The relation that `less` makes."""
    without = {row: spans for row, spans in second}
    return collected([(row, less(spans, without.get(row, NEVER))) for row, spans in first])


def counted(relation, places):
    """The relation that `count` makes."""
    return _totalled([(reduced(row, places), 1, spans) for row, spans in relation], places)


def summed(relation, places, place):
    """The relation that `sum` makes."""
    return _totalled([(reduced(row, places), row[place], spans) for row, spans in relation], places)


def _totalled(parts, places):
    """The relation of groups with their totals, by parts (group, number, spans)."""
    groups = {} if len(places) > 0 else {(): []}
    for group, number, spans in parts:
        groups.setdefault(group, []).append((number, spans))
    pairs = []
    for group, members in groups.items():
        for many, total, piece in _totals(members):
            # Without columns there is one group, also on days without rows.
            if many > 0 or group == ():
                pairs.append((group + (total,), (piece,)))
    return collected(pairs)


def _totals(members):
    """For each piece of all days how many members (number, spans) hold, and the sum of their numbers.

    They are tuples (many, total, piece).
    """
    points = points_of([ALWAYS] + [spans for number, spans in members])
    # How much more, or less, there is from each point on.
    more = {point: 0 for point in points}
    added = {point: 0 for point in points}
    for number, spans in members:
        for start, stop in spans:
            more[start] += 1
            more[stop] -= 1
            added[start] += number
            added[stop] -= number
    totals = []
    many = 0
    total = 0
    for start, stop in pieces(points):
        many += more[start]
        total += added[start]
        totals.append((many, total, (start, stop)))
    return totals
