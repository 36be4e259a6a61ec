"""Prefixes of traces: what is left behind one, meets and joins."""

from traceclasses.alphabets import free, taken_out
from traceclasses.forms import least
from traceclasses.graphs import first_off, firsts, ways_off


def is_prefix(alphabet, word, other):
    """Whether the trace of word is a prefix of that of other."""
    return rest(alphabet, word, other) is not None


def rest(alphabet, word, other):
    """The least word of what follows in other behind the prefix word, or None."""
    left = other
    for letter in word:
        if letter not in firsts(alphabet, left):
            return None
        left = first_off(left, letter)
    return least(alphabet, left)


def prefixes(alphabet, word):
    """The tuple of the least words of all prefixes, shorter ones first, then in order."""
    found = []
    for row in ways_off(alphabet, word):
        found.extend(sorted([least(alphabet, taken_off(word, left)) for left in row]))
    return tuple(found)


def taken_off(word, left):
    """A word of the prefix behind which this is left of a word."""
    return front(word, {letter: word.count(letter) - left.count(letter) for letter in word})


def front(word, many):
    """As many first ones of each letter as a dict tells, in their order in the word."""
    return "".join([letter for at, letter in enumerate(word) if word[:at].count(letter) < many[letter]])


def meet(alphabet, word, other):
    """The least word of the greatest prefix of both."""
    found = ""
    left = word
    beside = other
    letters = common_firsts(alphabet, left, beside)
    while letters:
        # Of all letters that can come next the least one does, so this makes the least word.
        found += letters[0]
        left = first_off(left, letters[0])
        beside = first_off(beside, letters[0])
        letters = common_firsts(alphabet, left, beside)
    return found


def common_firsts(alphabet, word, other):
    """The letters with which words alike either one can begin."""
    return taken_out(firsts(alphabet, word), firsts(alphabet, other))


def join(alphabet, word, other):
    """The least word of the least trace of which both are prefixes, or None."""
    common = meet(alphabet, word, other)
    left = rest(alphabet, common, word)
    beside = rest(alphabet, common, other)
    # Behind all that they share each rest must be able to pass the other one.
    if not free(alphabet, left, beside):
        return None
    return least(alphabet, common + left + beside)
