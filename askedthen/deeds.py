"""Deeds."""

from askedthen.errors import InvalidArgument
from askedthen.schemas import columns_of, is_row
from askedthen.spans import are_days

# The number of parts of a deed, by its word.
_PARTS = {"keep": 5, "drop": 5, "clear": 4}


def check_deed(schema, deed):
    """Raise InvalidArgument with "deed", "table", "row" or "days" unless this is a deed."""
    if not _is_shaped(deed):
        raise InvalidArgument("deed")
    columns = columns_of(schema, deed[1])
    if columns is None:
        raise InvalidArgument("table")
    if deed[0] != "clear" and not is_row(columns, deed[2]):
        raise InvalidArgument("row")
    if not are_days(deed[-2], deed[-1]):
        raise InvalidArgument("days")


def _is_shaped(deed):
    """Whether this is a tuple with a word of a deed in front and as many parts."""
    if not isinstance(deed, tuple) or deed == () or not isinstance(deed[0], str):
        return False
    return _PARTS.get(deed[0]) == len(deed)
