"""Digests of lists of whole numbers."""

from askedthen.errors import InvalidArgument
from askedthen.values import is_number

# 2^31 - 1.
_MOST = 2147483647


class Hasher:
    """Finds digests with a modulus and a multiplier."""

    def __init__(self, modulus, multiplier):
        if not is_number(modulus, _MOST) or modulus < 2:
            raise InvalidArgument("modulus")
        if not is_number(multiplier, _MOST) or multiplier < 1:
            raise InvalidArgument("multiplier")
        self.modulus = modulus
        self.multiplier = multiplier

    def digest(self, numbers):
        """The digest of a list of whole numbers from 0 on."""
        value = 0
        for number in numbers:
            value = (value * self.multiplier + number + 1) % self.modulus
        return value
