"""Values, and the order of rows of values."""

MOST = 999999
LONGEST = 40
COMPARISONS = ("=", "<>", "<", ">")


def is_number(value, most):
    """Whether this is a whole number from 0 to most; anything can be handed in."""
    # To Python a bool is an int, too.
    return isinstance(value, int) and not isinstance(value, bool) and 0 <= value <= most


def is_text(value):
    """Whether this is a text of at most 40 characters from the space to the tilde."""
    if not isinstance(value, str) or len(value) > LONGEST:
        return False
    return all(" " <= sign <= "~" for sign in value)


def kind_of(value):
    """The kind of a value, "number" or "text", or None for anything else."""
    if is_number(value, MOST):
        return "number"
    if is_text(value):
        return "text"
    return None


def order_of(row):
    """What rows are sorted by."""
    # Python does not compare a number with a text, so their kinds are compared ahead of them.
    return tuple([(1, value) if isinstance(value, str) else (0, value) for value in row])


def in_order(rows):
    """The list of rows in their order."""
    return sorted(rows, key=order_of)


def compares(one, comparison, other):
    """Whether a value is equal (=), unequal (<>), less (<) or greater (>) than another one."""
    first = order_of((one,))
    second = order_of((other,))
    if comparison == "=":
        return first == second
    if comparison == "<>":
        return first != second
    return first < second if comparison == "<" else first > second


def reduced(row, places):
    """The row of the values of a row at these indices."""
    return tuple([row[place] for place in places])
