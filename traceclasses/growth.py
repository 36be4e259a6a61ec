"""How the numbers of traces grow: the clique polynomial, and its factors."""

from traceclasses.alphabets import taken_out
from traceclasses.counting import cliques, count_traces
from traceclasses.roots import lots


def polynomial(alphabet):
    """At place k the number of the cliques of k letters, with the sign of (-1)^k."""
    sizes = [len(clique) for clique in cliques(alphabet)]
    return mirrored([sizes.count(size) for size in range(sizes[-1] + 1)])


def mirrored(row):
    """A polynomial whose odd places have the other sign."""
    return tuple([-item if at % 2 == 1 else item for at, item in enumerate(row)])


def factors(alphabet):
    """The rising tuple of the alphabets of the lots, as small as can be, that are independent of one another."""
    return tuple(sorted([("alphabet", lot, pairs_of(alphabet, lot)) for lot in lots(alphabet, alphabet[1])]))


def pairs_of(alphabet, letters):
    """The tuple of an alphabet's pairs of some letters."""
    return tuple([pair for pair in alphabet[2] if taken_out(pair, letters) == pair])


def multiplied(first, second):
    """The product of two polynomials."""
    found = [0] * (len(first) + len(second) - 1)
    for at, one in enumerate(first):
        for place, other in enumerate(second):
            found[at + place] += one * other
    return tuple(found)


def count_modulo(alphabet, n, m):
    """The number of traces of n letters modulo m."""
    if n < 0:
        return 0
    # The numbers of traces are the row of above : below. With below mirrored both are multiplied,
    # so that below has even places only; then every second place is enough, and half of n.
    above = (1,)
    below = polynomial(alphabet)
    left = n
    while left > 0:
        beside = mirrored(below)
        above = reduced(multiplied(above, beside)[left % 2::2], m)
        below = reduced(multiplied(below, beside)[::2], m)
        left = left // 2
    return above[0] % m


def reduced(row, m):
    """A polynomial modulo m."""
    return tuple([item % m for item in row])


def count_between(alphabet, word, n):
    """The number of traces of n letters of which the trace of a word is a prefix."""
    # Each of them has one rest, and each trace of so many letters is the rest of just one.
    return count_traces(alphabet, n - len(word))
