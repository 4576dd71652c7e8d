"""Keys as octets, and ranges of keys."""

from askedthen.values import LONGEST, MOST, is_number, kind_of

_MOST_VALUES = 12
_NUMBER = 1
_TEXT = 2


def is_key(value):
    """Whether this is a key; anything can be handed in."""
    if not isinstance(value, tuple) or not 1 <= len(value) <= _MOST_VALUES:
        return False
    return all(kind_of(part) is not None for part in value)


def key_octets(key):
    """The octets of a key."""
    return body(key) + (0,)


def body(values):
    """The octets of values without the 0 at the end."""
    return tuple([octet for value in values for octet in _value_octets(value)])


def _value_octets(value):
    if isinstance(value, str):
        return [_TEXT] + _codes(value) + [0]
    return [_NUMBER, value >> 16, value >> 8 & 255, value & 255]


def _codes(text):
    return [ord(sign) for sign in text]


def are_key_octets(octets):
    """Whether these are the octets of some key; anything can be handed in."""
    if not isinstance(octets, tuple) or not all(is_number(octet, 255) for octet in octets):
        return False
    count = 0
    place = 0
    while place is not None and place < len(octets) and octets[place] != 0:
        place = _behind_value(octets, place)
        count += 1
    return place == len(octets) - 1 and 1 <= count <= _MOST_VALUES


def _behind_value(octets, place):
    """The place behind the value that begins at a place, or None if none begins there."""
    if octets[place] == _NUMBER:
        return _behind_number(octets, place + 1)
    if octets[place] == _TEXT:
        return _behind_text(octets, place + 1)
    return None


def _behind_number(octets, place):
    if place + 3 > len(octets):
        return None
    number = octets[place] << 16 | octets[place + 1] << 8 | octets[place + 2]
    return place + 3 if number <= MOST else None


def _behind_text(octets, place):
    stop = place
    while stop < len(octets) and 32 <= octets[stop] <= 126:
        stop += 1
    if stop == len(octets) or octets[stop] != 0 or stop - place > LONGEST:
        return None
    return stop + 1


def range_of(values):
    """The range of all keys that begin with these values."""
    first = body(values)
    return (first, first + (3,))


def range_of_text(values, beginning):
    """The range of all keys that begin with these values and then a text with this beginning."""
    first = body(values) + (_TEXT,) + tuple(_codes(beginning))
    return (first, first + (127,))


def range_of_key(key):
    """The range of a single key."""
    first = key_octets(key)
    return (first, first + (0,))


def first_bit(one, other):
    """The number of the first bit in which the octets of two keys differ, or None if they are equal."""
    for place, (first, second) in enumerate(zip(one, other)):
        if first != second:
            return 8 * place + 8 - (first ^ second).bit_length()
    return None


def has_bit(octets, number):
    """Whether the bit with this number is set."""
    place = number // 8
    # Octets end sooner than others; a bit that is not there is not set.
    return place < len(octets) and octets[place] >> (7 - number % 8) & 1 == 1
