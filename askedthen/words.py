"""The words of texts."""


def all_words(text):
    """The list of the words of a text, one behind the other."""
    signs = [sign.lower() if _is_part(sign) else " " for sign in text]
    return "".join(signs).split()


def words_of(text):
    """The tuple of the words of a text, each once, in the order in which they first stand there."""
    # A dict keeps the order in which its keys were added.
    return tuple({word: True for word in all_words(text)})


def is_word(value):
    """Whether this is a text, not empty, of small letters and digits; anything can be handed in."""
    if not isinstance(value, str) or value == "":
        return False
    return all(_is_small(sign) for sign in value)


def _is_small(sign):
    return "a" <= sign <= "z" or "0" <= sign <= "9"


def _is_part(sign):
    """Whether a character is part of a word; large letters are, too."""
    return _is_small(sign) or "A" <= sign <= "Z"
