"""Days, and sets of days in their one form, the spans."""

from askedthen.values import is_number

LAST = 10000
NEVER = ()
ALWAYS = ((0, 10000),)


def is_day(value):
    """Whether this is a day; anything can be handed in."""
    return is_number(value, LAST - 1)


def are_days(start, stop):
    """Whether these are a start and a stop of a span; anything can be handed in."""
    return is_number(start, LAST) and is_number(stop, LAST) and start < stop


def are_spans(spans):
    """Whether this is a set of days in its one form; anything can be handed in."""
    if not isinstance(spans, tuple):
        return False
    before = -1
    for pair in spans:
        if not isinstance(pair, tuple) or len(pair) != 2 or not are_days(pair[0], pair[1]):
            return False
        if pair[0] <= before:
            return False
        before = pair[1]
    return True


def holds(spans, day):
    """Whether the day is in the set."""
    return any(start <= day < stop for start, stop in spans)


def unite(first, second):
    """The spans of the days that are in one set or in both."""
    return joined(sorted(first + second))


def meet(first, second):
    """The spans of the days that are in both sets."""
    found = []
    one = 0
    other = 0
    while one < len(first) and other < len(second):
        start = max(first[one][0], second[other][0])
        stop = min(first[one][1], second[other][1])
        if start < stop:
            found.append((start, stop))
        if first[one][1] < second[other][1]:
            one += 1
        else:
            other += 1
    return tuple(found)


def less(first, second):
    """The spans of the days that are in the first set and not in the second one."""
    return meet(first, _others(second))


def _others(spans):
    """The spans of all days that are not in the set."""
    starts = [0] + [pair[1] for pair in spans]
    stops = [pair[0] for pair in spans] + [LAST]
    return tuple([(start, stop) for start, stop in zip(starts, stops) if start < stop])


def points_of(rows):
    """The ascending list, without duplicates, of all starts and stops in a list of sets of days."""
    return sorted({point for spans in rows for pair in spans for point in pair})


def pieces(points):
    """The list of the pairs of neighbours in a list."""
    return list(zip(points, points[1:]))


def joined(pairs):
    """The spans of a list of pairs in ascending order, each start at least the stop before it."""
    spans = []
    for start, stop in pairs:
        if spans and start <= spans[-1][1]:
            # Uniting hands in pairs that overlap, so a stop can be less than the one before.
            spans[-1] = (spans[-1][0], max(spans[-1][1], stop))
        else:
            spans.append((start, stop))
    return tuple(spans)
