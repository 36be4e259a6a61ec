"""Levi's four pieces of two products that are alike."""

from traceclasses.alphabets import free, taken_out
from traceclasses.exchanges import parts
from traceclasses.prefixes import meet, rest


def levi(alphabet, x, y, z, t):
    """The pieces (p, r, s, q) of the products x y and z t, or None if these are not alike."""
    if parts(alphabet, x + y, z + t) is not None:
        return None
    p = meet(alphabet, x, z)
    r = rest(alphabet, p, x)
    s = rest(alphabet, p, z)
    return (p, r, s, rest(alphabet, r, t))


def is_levi(alphabet, x, y, z, t, pieces):
    """Whether these are four pieces of the products x y and z t; False for any other value."""
    if not isinstance(pieces, tuple) or len(pieces) != 4:
        return False
    if not all(is_word(alphabet, piece) for piece in pieces):
        return False
    p, r, s, q = pieces
    alike = ((x, p + r), (y, s + q), (z, p + s), (t, r + q))
    return free(alphabet, r, s) and all(parts(alphabet, one, two) is None for one, two in alike)


def is_word(alphabet, value):
    """Whether a value is a text of letters of the alphabet."""
    return isinstance(value, str) and taken_out(value, alphabet[1]) == value
