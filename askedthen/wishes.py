"""Wishes for words in texts, and searches for them."""

from askedthen.octets import range_of, range_of_text
from askedthen.spans import ALWAYS, NEVER, less, meet, unite
from askedthen.values import LONGEST, in_order
from askedthen.words import is_word, words_of

_FEWEST_PARTS = 2
_MOST_PARTS = 6
_DEEPEST = 6


def is_wish(value):
    """Whether this is a wish; anything can be handed in."""
    return _is_wish(value, _DEEPEST)


def _is_wish(value, deep):
    """Whether this is a wish that is at most so deep."""
    if deep == 0 or not isinstance(value, tuple) or len(value) != 2 or not isinstance(value[0], str):
        return False
    word, what = value
    if word in ("word", "begins"):
        return is_word(what) and len(what) <= LONGEST
    if word == "none":
        return _is_wish(what, deep - 1)
    if word not in ("all", "any") or not isinstance(what, tuple):
        return False
    return _FEWEST_PARTS <= len(what) <= _MOST_PARTS and all(_is_wish(part, deep - 1) for part in what)


def fulfils(text, wish):
    """Whether a text fulfils a wish."""
    return _do_fulfil(words_of(text), wish)


def _do_fulfil(words, wish):
    """Whether the words of a text fulfil a wish."""
    word, what = wish
    if word == "word":
        return what in words
    if word == "begins":
        return any(one.startswith(what) for one in words)
    if word == "none":
        return not _do_fulfil(words, what)
    if word == "all":
        return all(_do_fulfil(words, part) for part in what)
    return any(_do_fulfil(words, part) for part in what)


def wish_ranges(wish, table, column):
    """The list of the ranges of a wish in a column, as they come."""
    word, what = wish
    if word in ("word", "begins"):
        return [_range_of_words(wish, table, column)]
    if word == "none":
        return [_range_of_rows(table)] + wish_ranges(what, table, column)
    return [asked for part in what for asked in wish_ranges(part, table, column)]


def _range_of_words(wish, table, column):
    """The range of the entries of a word, or of the words with a beginning."""
    word, what = wish
    if word == "word":
        return range_of(("w", table, column, what))
    return range_of_text(("w", table, column), what)


def _range_of_rows(table):
    """The range of the entries of the rows of a table."""
    return range_of(("t", table))


def found(wish, table, column, source):
    """The list of what a search finds, (row, spans), in the order of rows."""
    days = _found_days(wish, table, column, source)
    return [(row, days[row]) for row in in_order(list(days)) if days[row] != NEVER]


def _found_days(wish, table, column, source):
    """What a search finds as a dict from rows to their spans, which can be ()."""
    word, what = wish
    if word in ("word", "begins"):
        return _told_days(source, _range_of_words(wish, table, column), 4)
    if word == "none":
        every = _told_days(source, _range_of_rows(table), 2)
        without = _found_days(what, table, column, source)
        return {row: less(every[row], without.get(row, NEVER)) for row in every}
    parts = [_found_days(part, table, column, source) for part in what]
    either = _united([(row, part[row]) for part in parts for row in part])
    if word == "any":
        return either
    return {row: _met([part.get(row, NEVER) for part in parts]) for row in either}


def _told_days(source, asked, ahead):
    """The spans of the rows in the entries of a range; so many values stand ahead of a row in its keys."""
    first, last = asked
    return _united([(key[ahead:], spans) for key, spans in source.entries(first, last)])


def _united(pairs):
    """The spans of rows, by pairs (row, spans); a row can stand in several of them."""
    days = {}
    for row, spans in pairs:
        days[row] = unite(days.get(row, NEVER), spans)
    return days


def _met(sets):
    """The spans of the days that are in each of several sets."""
    days = ALWAYS
    for spans in sets:
        days = meet(days, spans)
    return days
