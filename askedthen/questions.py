"""Questions: their form, and the columns that they have under a schema."""

from askedthen.errors import BadQuestion
from askedthen.schemas import are_unlike, columns_of, is_name, place_of
from askedthen.values import COMPARISONS, kind_of
from askedthen.wishes import is_wish

# A question that lies within so many others is too deep.
_DEEPEST = 12

# For each word the number of items of its questions, and how many of those behind it are questions.
_SHAPES = {
    "table": (2, 0), "found": (4, 0), "pick": (5, 1), "same": (4, 1), "keep": (3, 1), "name": (4, 1),
    "join": (3, 2), "unite": (3, 2), "less": (3, 2), "count": (3, 1), "sum": (4, 1),
}


def columns(question, schema):
    """The columns of a question; raises BadQuestion(reason)."""
    return _columns(question, schema, 0)


def _columns(question, schema, around):
    """The columns of a question that lies within so many others."""
    _check_form(question, around)
    if question[0] in ("table", "found"):
        there = columns_of(schema, question[1])
        _require(there is not None, "table")
        given = [there]
    else:
        given = [_columns(part, schema, around + 1) for part in parts_of(question)]
    find = _FINDERS[question[0]]
    return find(question, given)


def _require(holds, reason):
    """Refuse a question for a reason unless something holds."""
    if not holds:
        raise BadQuestion(reason)


def _check_form(question, around):
    _require(isinstance(question, tuple), "form")
    _require(around < _DEEPEST, "deep")
    _require(question != () and isinstance(question[0], str) and question[0] in _SHAPES, "form")
    _require(len(question) == _SHAPES[question[0]][0], "form")


def parts_of(question):
    """The tuple of the parts of a question that has the form of one."""
    return question[1:1 + _SHAPES[question[0]][1]]


def _place(given, name):
    """The index of a column, which has to be there."""
    place = place_of(given, name)
    _require(place is not None, "column")
    return place


def _chosen(given, names):
    """The columns with these names, which have to be there and unlike."""
    _require(isinstance(names, tuple), "form")
    places = places_of(given, names)
    _require(None not in places and are_unlike(places), "column")
    return tuple([given[place] for place in places])


# One function for each word: it takes a question and the list of the columns of its parts (or of its
# table), raises the question's own reasons in their order, and returns the columns of the question.


def _of_table(question, given):
    return given[0]


def _of_found(question, given):
    place = _place(given[0], question[2])
    _require(given[0][place][1] == "text", "kinds")
    _require(is_wish(question[3]), "wish")
    return given[0]


def _of_pick(question, given):
    _require(isinstance(question[3], str) and question[3] in COMPARISONS, "form")
    place = _place(given[0], question[2])
    _require(kind_of(question[4]) == given[0][place][1], "value")
    return given[0]


def _of_same(question, given):
    place = _place(given[0], question[2])
    other = _place(given[0], question[3])
    _require(given[0][place][1] == given[0][other][1], "kinds")
    return given[0]


def _of_keep(question, given):
    chosen = _chosen(given[0], question[2])
    _require(chosen != (), "column")
    return chosen


def _of_name(question, given):
    new = question[3]
    _require(is_name(new), "form")
    place = _place(given[0], question[2])
    _require(place_of(given[0], new) in (None, place), "taken")
    return given[0][:place] + ((new, given[0][place][1]),) + given[0][place + 1:]


def _of_join(question, given):
    first, second = given
    for place, other in common_places(first, second):
        _require(first[place][1] == second[other][1], "kinds")
    return first + tuple([second[place] for place in other_places(first, second)])


def _of_both(question, given):
    _require(given[0] == given[1], "columns")
    return given[0]


def _of_count(question, given):
    chosen = _chosen(given[0], question[2])
    _require("count" not in question[2], "taken")
    return chosen + (("count", "number"),)


def _of_sum(question, given):
    chosen = _chosen(given[0], question[2])
    place = _place(given[0], question[3])
    _require(given[0][place][1] == "number", "kinds")
    _require("sum" not in question[2], "taken")
    return chosen + (("sum", "number"),)


_FINDERS = {
    "table": _of_table, "found": _of_found, "pick": _of_pick, "same": _of_same, "keep": _of_keep,
    "name": _of_name, "join": _of_join, "unite": _of_both, "less": _of_both, "count": _of_count,
    "sum": _of_sum,
}


def told_of(question, schema):
    """The list of what a question that is not bad tells beside its parts, columns as their indices.

    Of `join` it is the common columns, as pairs of indices, and the indices of those that the second
    part adds.
    """
    word = question[0]
    given = [columns(part, schema) for part in parts_of(question)]
    if word == "pick":
        return [place_of(given[0], question[2]), question[3], question[4]]
    if word == "same":
        return places_of(given[0], question[2:])
    if word in ("keep", "count"):
        return [places_of(given[0], question[2])]
    if word == "sum":
        return [places_of(given[0], question[2]), place_of(given[0], question[3])]
    if word == "join":
        return [common_places(given[0], given[1]), other_places(given[0], given[1])]
    return []


def places_of(given, names):
    """The list of the indices of the columns with these names, None for a name that none has."""
    return [place_of(given, name) for name in names]


def common_places(first, second):
    """The list of the pairs of indices, in the first and in the second columns, of those in both."""
    pairs = [(place_of(first, column[0]), place) for place, column in enumerate(second)]
    return [pair for pair in pairs if pair[0] is not None]


def other_places(first, second):
    """The list of the indices of the second columns whose names the first ones do not have."""
    return [place for place, column in enumerate(second) if place_of(first, column[0]) is None]
