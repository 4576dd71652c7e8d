"""Texts of wishes."""

from askedthen.errors import BadWish
from askedthen.wishes import is_wish
from askedthen.words import is_word

# The most signs "-" and "(" that are open around a clause.
_MOST_OPEN = 12


def parse_wish(text):
    """The wish of a text; raises BadWish(place) if it is refused."""
    reader = Reader(text)
    wish = reader.wish(0)
    reader.take("")
    if not is_wish(wish):
        raise BadWish(len(text))
    return wish


def _tokens_of(text):
    """The tokens of a text, each with its index, and behind them an empty one."""
    tokens = []
    place = 0
    while place < len(text):
        stop = _stop_of(text, place)
        if text[place] != " ":
            tokens.append((text[place:stop], place))
        place = stop
    # So where a text ends too early is just the index of a token that cannot stand there.
    return tokens + [("", len(text))]


def _stop_of(text, place):
    """The index behind the run, or behind the single character, that begins at an index."""
    stop = place
    while stop < len(text) and is_word(text[stop]):
        stop += 1
    return max(stop, place + 1)


class Reader:
    """Reads the tokens of a text; `around` is the number of the open signs around what is read."""

    def __init__(self, text):
        self._tokens = _tokens_of(text)
        self._at = 0

    def wish(self, around):
        """Read a wish."""
        parts = [self._alternative(around)]
        while self._has("|"):
            self.take("|")
            parts.append(self._alternative(around))
        return parts[0] if len(parts) == 1 else ("any", tuple(parts))

    def _alternative(self, around):
        parts = [self._clause(around)]
        while self._has("-") or self._has("(") or is_word(self._token()):
            parts.append(self._clause(around))
        return parts[0] if len(parts) == 1 else ("all", tuple(parts))

    def _clause(self, around):
        if around > _MOST_OPEN:
            self._refuse()
        if self._has("-"):
            self.take("-")
            return ("none", self._clause(around + 1))
        if self._has("("):
            self.take("(")
            wish = self.wish(around + 1)
            self.take(")")
            return wish
        return self._run()

    def _run(self):
        run = self._token()
        if not is_word(run):
            self._refuse()
        self.take(run)
        if self._has("*"):
            self.take("*")
            return ("begins", run)
        return ("word", run)

    def take(self, token):
        """Go on behind this token; refuse the text if another one stands here."""
        if not self._has(token):
            self._refuse()
        self._at += 1

    def _has(self, token):
        return self._token() == token

    def _token(self):
        return self._tokens[self._at][0]

    def _refuse(self):
        raise BadWish(self._tokens[self._at][1])


def show_wish(wish):
    """The shown text of a wish."""
    word, what = wish
    if word == "word":
        return what
    if word == "begins":
        return what + "*"
    if word == "none":
        return "-" + _shown_part(what, ("all", "any"))
    if word == "all":
        return " ".join([_shown_part(part, ("all", "any")) for part in what])
    return " | ".join([_shown_part(part, ("any",)) for part in what])


def _shown_part(wish, bracketed):
    """The shown text of a part, in brackets if it has one of these words."""
    text = show_wish(wish)
    return "(" + text + ")" if wish[0] in bracketed else text
