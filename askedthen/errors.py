"""The errors of the package."""


class AskError(ValueError):
    """The base class of all errors of the package."""


class InvalidArgument(AskError):
    """An argument is invalid; `name` is the word for it."""

    def __init__(self, name):
        self.name = name


class BadQuestion(AskError):
    """A question has no meaning under a schema; `reason` is the word for why."""

    def __init__(self, reason):
        self.reason = reason


class BadPaper(AskError):
    """Parts are not a paper; `place` is the index at which this shows."""

    def __init__(self, place):
        self.place = place


class BadWish(AskError):
    """A text is not a wish; `place` is the index at which this shows."""

    def __init__(self, place):
        self.place = place


class NoSuchDeed(AskError):
    """There are not so many deeds; `number` is the number asked for."""

    def __init__(self, number):
        self.number = number


class Unknown(AskError):
    """A pruned tree does not tell what is asked."""


class TooManyDeeds(AskError):
    """A keeper does no further deed."""
