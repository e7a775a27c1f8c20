"""Reading the texts of rings."""

from numbertypes.builds import Duals, Matrices, Polynomials, Roots, Triangles
from numbertypes.errors import InvalidText, RingError
from numbertypes.integers import read_integer
from numbertypes.rings import Fractions, Rests, Ring, Sets, Whole
from numbertypes.wider import Pairs, Quaternions, Swapped, Twists, Words

# The arguments of each word, in their order. Tables are not read, so their word is not here.
ARGUMENTS = {
    "whole": ("number",),
    "fractions": (),
    "rests": ("number",),
    "sets": ("number",),
    "matrices": ("number", "ring"),
    "triangles": ("ring",),
    "polynomials": ("ring",),
    "duals": ("ring",),
    "roots": ("number", "ring"),
    "words": ("number", "ring"),
    "pairs": ("ring", "ring"),
    "quaternions": ("ring",),
    "swapped": ("ring",),
    "twists": ("number", "ring"),
}
MOST_DIGITS = 10


def read_ring(text):
    """The ring with a text; InvalidText(0) for any value that is none."""
    if not isinstance(text, str):
        raise InvalidText(0)
    return ring_within(text, Ring.MOST_DEPTH)


def ring_within(text, depth):
    """The ring with a text and at most this depth."""
    word, given = opened(text)
    kinds = ARGUMENTS.get(word)
    if kinds is None or len(kinds) != len(given) or depth == 0:
        raise InvalidText(0)
    values = []
    for kind, part in zip(kinds, given):
        values.append(number_of(part) if kind == "number" else ring_within(part, depth - 1))
    try:
        return made(word, values)
    except RingError:
        raise InvalidText(0) from None


def opened(text):
    """The pair of the word of a text and the list of its arguments."""
    at = text.find("(")
    if at == -1:
        return (text, [])
    if not text.endswith(")"):
        raise InvalidText(0)
    return (text[:at], parted(text[at + 1 : -1]))


def parted(text):
    """The parts of a text between the commas that stand in no parentheses."""
    parts = []
    start = 0
    level = 0
    for at, sign in enumerate(text):
        if sign == "(":
            level += 1
        elif sign == ")":
            level -= 1
        elif level == 0 and text[at : at + 2] == ", ":
            parts.append(text[start:at])
            start = at + 2
    parts.append(text[start:])
    return parts


def number_of(text):
    """The integer that is written without leading zeros, negative ones with a sign."""
    number = read_integer(text, MOST_DIGITS)
    if number is None:
        raise InvalidText(0)
    return number


def made(word, values):
    """The ring with a word and its arguments."""
    if word == "whole":
        return Whole(*values)
    if word == "fractions":
        return Fractions()
    if word == "rests":
        return Rests(*values)
    if word == "sets":
        return Sets(*values)
    if word == "matrices":
        return Matrices(*values)
    if word == "triangles":
        return Triangles(*values)
    if word == "polynomials":
        return Polynomials(*values)
    if word == "duals":
        return Duals(*values)
    if word == "roots":
        return Roots(*values)
    if word == "words":
        return Words(*values)
    if word == "pairs":
        return Pairs(*values)
    if word == "quaternions":
        return Quaternions(*values)
    if word == "swapped":
        return Swapped(*values)
    return Twists(*values)
