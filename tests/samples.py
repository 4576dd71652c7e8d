"""What several tests hand in, and plain reckonings that they compare with."""

import random


class Same:
    """Equal to everything, so that only a look at its class tells what it is not."""

    def __eq__(self, other):
        return True

    def __hash__(self):
        return 0


class Sour:
    """Cannot be compared, measured or iterated over."""

    __hash__ = None

    def __eq__(self, other):
        raise RuntimeError("compared")

    def __len__(self):
        raise RuntimeError("measured")

    def __iter__(self):
        raise RuntimeError("iterated over")


# Things that are no number, no text and no tuple.
ODD = [None, True, False, 1.0, 0.5, 2j, b"a", [], [1], ["a"], {}, {"a": 1}, set(), frozenset("a"),
       object(), len, int, Same(), Sour()]

DAYS = 10000

# A schema with each count at its upper bound, and its least one.
WIDE = tuple((name, tuple((column, "text") for column in ("a", "b", "c", "d", "eeeeeeee")))
             for name in ("a", "b", "c", "tttttttt"))
SMALL = (("a", (("a", "number"),)),)

# The schema of most tests.
SHOP = (
    ("item", (("name", "text"), ("price", "number"), ("note", "text"))),
    ("price", (("price", "number"),)),
    ("tag", (("name", "text"),)),
)


def flags(spans):
    """For each of all days whether it is in the set, day by day."""
    found = [False] * DAYS
    for start, stop in spans:
        for day in range(start, stop):
            found[day] = True
    return found


def spans_of(found):
    """The spans of the days for which a list tells True."""
    spans = []
    start = None
    for day, held in enumerate(list(found) + [False]):
        if held and start is None:
            start = day
        if not held and start is not None:
            spans.append((start, day))
            start = None
    return tuple(spans)


def some_spans(seed, most, last=DAYS):
    """Spans with at most so many pairs, the same ones for the same seed; many pairs touch a bound."""
    dice = random.Random(seed)
    count = min(dice.randint(0, most), (last + 1) // 2)
    points = sorted(dice.sample(range(last + 1), 2 * count))
    if points and dice.random() < 0.3:
        points[0] = 0
    if points and dice.random() < 0.3:
        points[-1] = last
    return tuple(zip(points[::2], points[1::2]))
