"""Words, and the texts of numbers."""

from chancehall.errors import NoNumber
from chancehall.wholes import divisor

LONGEST_WORD = 8
MOST_FIGURES = 40
FIGURES = "0123456789"


def is_word(thing):
    """Whether a thing of any kind is a word."""
    if not isinstance(thing, str) or not 1 <= len(thing) <= LONGEST_WORD:
        return False
    return all(["a" <= sign <= "z" for sign in thing])


def number_text(one):
    """The one text of a fraction."""
    if one[1] == 1:
        return str(one[0])
    return str(one[0]) + "/" + str(one[1])


def number_of(text):
    """The fraction whose text this is; NoNumber of what is no number's text."""
    if not isinstance(text, str):
        raise NoNumber("a number's text is a text")
    parts = text.split("/")
    if len(parts) == 1:
        return (signed_of(text), 1)
    if len(parts) > 2:
        raise NoNumber("a fraction has one top and one bottom")
    top = signed_of(parts[0])
    bottom = figures_of(parts[1])
    if bottom < 2 or divisor(top, bottom) != 1:
        raise NoNumber("a fraction is written in lowest terms, over 2 or more")
    return (top, bottom)


def signed_of(text):
    """The whole number that is written by figures, perhaps with a - ahead."""
    if not text.startswith("-"):
        return figures_of(text)
    number = figures_of(text[1:])
    if number == 0:
        raise NoNumber("nought has no sign")
    return -number


def figures_of(text):
    """The whole number that is written by figures alone."""
    # Python's int would take blanks, signs, underscores and figures of other scripts too.
    if not 1 <= len(text) <= MOST_FIGURES or not all([sign in FIGURES for sign in text]):
        raise NoNumber("a whole number is written by one to forty figures")
    if text.startswith("0") and len(text) > 1:
        raise NoNumber("a whole number has no noughts ahead")
    return int(text)
