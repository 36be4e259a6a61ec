"""Components, roots and powers of traces."""

from traceclasses.alphabets import free, taken_out
from traceclasses.exchanges import parts
from traceclasses.forms import least
from traceclasses.prefixes import front


def components(alphabet, word):
    """The rising tuple of the least words of the components."""
    return tuple(sorted([least(alphabet, taken_out(word, lot)) for lot in lots(alphabet, word)]))


def lots(alphabet, word):
    """The letters of a word in rising texts, as many as can be, such that letters of unlike
    texts are independent.
    """
    found = []
    for letter in taken_out(alphabet[1], word):
        joined = [lot for lot in found if not free(alphabet, lot, letter)]
        others = [lot for lot in found if free(alphabet, lot, letter)]
        found = others + ["".join(sorted("".join(joined) + letter))]
    return found


def root(alphabet, word):
    """(least word, exponent) of the trace of which a word that is not empty is the greatest power."""
    exponents = [n for n in range(1, len(word) + 1) if is_power(alphabet, word, n)]
    exponent = max(exponents)
    return (least(alphabet, base(word, exponent)), exponent)


def is_power(alphabet, word, n):
    """Whether a word is the n-th power of some trace."""
    return parts(alphabet, base(word, n) * n, word) is None


def base(word, n):
    """A word of the only prefix that can have this word as its n-th power."""
    return front(word, {letter: word.count(letter) // n for letter in word})


def power(alphabet, word, n):
    """The least word of the n-th power."""
    return least(alphabet, word * n)
