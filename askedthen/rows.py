"""Rows of digests, and papers of what stands in them.

A way into a row is the list of its turns, from the whole row down: for each whether it goes to the
right. The parts beside a way are told from the last turn to the first, as papers tell them.
"""

from askedthen.errors import InvalidArgument
from askedthen.values import is_number


def row_digest(hasher, digests):
    """The digest of a row."""
    return hasher.digest(_row_input(len(digests), _part_digest(hasher, digests)))


def _row_input(size, digest):
    return [6, size, digest]


def _part_digest(hasher, digests):
    if len(digests) < 2:
        return hasher.digest(_leaf_input(digests))
    half = _half(len(digests))
    left = _part_digest(hasher, digests[:half])
    return hasher.digest(_join_input(left, _part_digest(hasher, digests[half:])))


def _leaf_input(digests):
    return [4, *digests]


def _join_input(left, right):
    return [5, left, right]


def _half(size):
    """The greatest power of two that is less than a size above 1."""
    return 1 << ((size - 1).bit_length() - 1)


def _way_to_place(size, place):
    """The way to a place in a row with so many digests."""
    way = []
    while size > 1:
        half = _half(size)
        way.append(place >= half)
        if place >= half:
            place -= half
            size -= half
        else:
            size = half
    return way


def _way_to_old(old, size):
    """The way to the part with which a row that begins with so many old digests tells all of them."""
    way = []
    while old < size and size > 1:
        half = _half(size)
        way.append(old > half)
        if old > half:
            old -= half
            size -= half
        else:
            size = half
    return way


def _parts_of_way(digests, way):
    """The part at the end of a way, and behind it those beside the way."""
    part = digests
    beside = []
    for right in way:
        half = _half(len(part))
        beside.append(part[:half] if right else part[half:])
        part = part[half:] if right else part[:half]
    return [part] + beside[::-1]


def _inputs_of_way(hasher, way, size, digests):
    """The inputs on a way, from its end up to the row with so many digests.

    `digests` are those of the part at the end and of the parts beside the way.
    """
    inputs = []
    digest = digests[0]
    for right, beside in zip(way[::-1], digests[1:]):
        inputs.append(_join_input(beside, digest) if right else _join_input(digest, beside))
        digest = hasher.digest(inputs[-1])
    return inputs + [_row_input(size, digest)]


def inclusion(hasher, digests, place):
    """The inclusion paper of a place in a row."""
    parts = _parts_of_way(digests, _way_to_place(len(digests), place))
    return [_part_digest(hasher, part) for part in parts[1:]]


def extension(hasher, digests, size):
    """The extension paper that a row begins with so many digests."""
    parts = _parts_of_way(digests, _way_to_old(size, len(digests)))
    return [_part_digest(hasher, part) for part in parts]


def included_digest(hasher, size, place, digest, paper):
    """The digest of the row that an inclusion paper leads to, or None if its length is wrong."""
    way = _way_to_place(size, place)
    if len(paper) != len(way):
        return None
    return hasher.digest(_inclusion_inputs(hasher, way, size, [digest], paper)[-1])


def _inclusion_inputs(hasher, way, size, leaf, paper):
    """The inputs on the way from a leaf, the list of its digest, up to the row."""
    first = _leaf_input(leaf)
    return [first] + _inputs_of_way(hasher, way, size, [hasher.digest(first), *paper])


def extended_digests(hasher, old, size, paper):
    """The digests of the old row and the new one that an extension paper leads to, or None."""
    way = _way_to_old(old, size)
    if len(paper) != len(way) + 1:
        return None
    old_input = _old_inputs(hasher, way, old, paper)[-1]
    new_input = _inputs_of_way(hasher, way, size, paper)[-1]
    return (hasher.digest(old_input), hasher.digest(new_input))


def _old_inputs(hasher, way, old, paper):
    """The inputs on the way of the old row, as an extension paper tells them."""
    beside = [digest for right, digest in zip(way[::-1], paper[1:]) if right]
    return _inputs_of_way(hasher, _turns_of_old(way), old, [paper[0], *beside])


def _turns_of_old(way):
    """The way in the old row: where the new one turns to the left, the old one has no turn."""
    return [right for right in way if right]


def find_row_clash(hasher, digests, place, digest, paper):
    """Two unlike lists with the same digest, one of the row first, or None.

    None if the inclusion paper does not lead to the digest of the row, and for the row's own paper.
    """
    size = len(digests)
    if included_digest(hasher, size, place, digest, paper) != row_digest(hasher, digests):
        return None
    way = _way_to_place(size, place)
    leaf = _parts_of_way(digests, way)[0]
    own = _inclusion_inputs(hasher, way, size, leaf, inclusion(hasher, digests, place))
    return _first_clash(hasher, own, _inclusion_inputs(hasher, way, size, [digest], paper))


def find_extension_clash(hasher, old, new, paper):
    """Two unlike lists with the same digest, one of a row first, or None.

    None if the extension paper does not lead to the digests of the two rows, and for the new row's
    own paper if the old row begins it.
    """
    digests = (row_digest(hasher, old), row_digest(hasher, new))
    if extended_digests(hasher, len(old), len(new), paper) != digests:
        return None
    way = _way_to_old(len(old), len(new))
    told = _old_inputs(hasher, way, len(old), paper) + _inputs_of_way(hasher, way, len(new), paper)
    own = _own_inputs(hasher, old, _turns_of_old(way)) + _own_inputs(hasher, new, way)
    clash = _first_clash(hasher, own, told)
    if clash is not None:
        return clash
    # The paper tells the truth of both rows, so they consist of parts with the same digests.
    return _first_clash(hasher, _part_inputs(hasher, old), _part_inputs(hasher, new[:len(old)]))


def _own_inputs(hasher, digests, way):
    """The inputs on a way in a row, from its end up to the row."""
    parts = _parts_of_way(digests, way)
    return _inputs_of_way(hasher, way, len(digests), [_part_digest(hasher, part) for part in parts])


def _part_inputs(hasher, digests):
    """The input of a part, then those of all parts in it."""
    if len(digests) < 2:
        return [_leaf_input(digests)]
    half = _half(len(digests))
    left = _part_inputs(hasher, digests[:half])
    right = _part_inputs(hasher, digests[half:])
    return [_join_input(hasher.digest(left[0]), hasher.digest(right[0]))] + left + right


def _first_clash(hasher, own, told):
    """The first two unlike lists with the same digest that stand at the same place, or None."""
    for one, other in zip(own, told):
        if one != other and hasher.digest(one) == hasher.digest(other):
            return (one, other)
    return None


class DigestRow:
    """A row of digests to which further ones are appended."""

    def __init__(self, hasher):
        self._hasher = hasher
        self._digests = []

    def append(self, digest):
        """Append a digest; return the digest of the row."""
        self._digests.append(digest)
        return self.digest()

    def digest(self):
        """The digest of the row."""
        return row_digest(self._hasher, self._digests)

    def inclusion(self, place):
        """The inclusion paper of a place; raises InvalidArgument("place") unless it is there."""
        if not is_number(place, len(self._digests) - 1):
            raise InvalidArgument("place")
        return inclusion(self._hasher, self._digests, place)

    def extension(self, size):
        """The extension paper for so many digests; raises InvalidArgument("size") unless they are there."""
        if not is_number(size, len(self._digests)) or size == 0:
            raise InvalidArgument("size")
        return extension(self._hasher, self._digests, size)
