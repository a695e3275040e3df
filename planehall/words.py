"""Words of texts, free names, and fractions as texts (DOC.md [27] and [31])."""

from planehall.errors import BadText
from planehall.roots import check_fraction

BLANKS = " \n"
DIGITS = "0123456789"
SMALL_LETTERS = "abcdefghijklmnopqrstuvwxyz"
NAME_SIGNS = "abcdefghijklmnopqrstuvwxyz0123456789_"
KEPT_NAMES = (
    "all", "none", "half", "disc", "box", "polygon",
    "not", "move", "scale", "turn", "mirror", "lead", "flip", "repeat", "let",
)
MOST_NAME_SIGNS = 24
MOST_DIGITS = 400


def words_of(text):
    """The tuple of pairs of the spot of a word and the word."""
    if not isinstance(text, str):
        raise BadText(None)
    words, at = [], 0
    while at < len(text):
        end = end_at(text, at)
        if text[at] != "#" and text[at] not in BLANKS:
            words.append((at, text[at:end]))
        at = end
    return tuple(words)


def end_at(text, at):
    """Where the word, blank or remark that begins at an index ends."""
    if text[at] == "#":
        end = text.find("\n", at)
        return len(text) if end < 0 else end
    signs = ""
    if text[at] in DIGITS:
        signs = DIGITS
    elif text[at] in SMALL_LETTERS:
        signs = NAME_SIGNS
    end = at + 1
    while end < len(text) and text[end] in signs:
        end += 1
    return end


def is_free_name(value):
    """Whether a value, whatever it is, is a name that may be defined."""
    if not isinstance(value, str) or not value or len(value) > MOST_NAME_SIGNS or value in KEPT_NAMES:
        return False
    return value[0] in SMALL_LETTERS and all([sign in NAME_SIGNS for sign in value])


def are_digits(word):
    """Whether a word is digits that tell a number: up to 400."""
    return 0 < len(word) <= MOST_DIGITS and all([sign in DIGITS for sign in word])


def fraction_text(fraction):
    """A fraction as n or n/m."""
    check_fraction(fraction)
    return plain_text(fraction)


def plain_text(fraction):
    top, bottom = fraction
    return str(top) if bottom == 1 else f"{top}/{bottom}"
