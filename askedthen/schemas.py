"""Names, schemas, and the rows of a table."""

from askedthen.errors import InvalidArgument
from askedthen.values import kind_of

_LONGEST_NAME = 8
_MOST_TABLES = 4
_MOST_COLUMNS = 5
_KINDS = ("number", "text")


def is_name(value):
    """Whether this is a name; anything can be handed in."""
    if not isinstance(value, str) or not 1 <= len(value) <= _LONGEST_NAME:
        return False
    return all("a" <= sign <= "z" for sign in value)


def are_unlike(names):
    """Whether no item of a list or tuple stands twice."""
    return all([names.index(name) == place for place, name in enumerate(names)])


def check_schema(schema):
    """Raise InvalidArgument("schema") unless this is a schema; anything can be handed in."""
    if not _is_schema(schema):
        raise InvalidArgument("schema")


def _is_schema(schema):
    return _are_named(schema, _MOST_TABLES) and all(_are_columns(table[1]) for table in schema)


def _are_columns(columns):
    return _are_named(columns, _MOST_COLUMNS) and all(_is_kind(column[1]) for column in columns)


def _are_named(pairs, most):
    """Whether this is a tuple of 1 to most pairs, each with a name of its own in front."""
    if not isinstance(pairs, tuple) or not 1 <= len(pairs) <= most:
        return False
    if not all(_is_named(pair) for pair in pairs):
        return False
    return are_unlike([pair[0] for pair in pairs])


def _is_named(pair):
    return isinstance(pair, tuple) and len(pair) == 2 and is_name(pair[0])


def _is_kind(value):
    return isinstance(value, str) and value in _KINDS


def place_of(columns, name):
    """The index of the column with a name, or None."""
    if not isinstance(name, str):
        return None
    for place, column in enumerate(columns):
        if column[0] == name:
            return place
    return None


def columns_of(schema, name):
    """The columns of the table with a name, or None."""
    # Tables, like columns, are pairs with their names in front.
    place = place_of(schema, name)
    if place is None:
        return None
    return schema[place][1]


def is_row(columns, row):
    """Whether this is a row of a table with these columns; as the row anything can be handed in."""
    if not isinstance(row, tuple) or len(row) != len(columns):
        return False
    return all([kind_of(value) == column[1] for value, column in zip(row, columns)])
