"""Traces that commute, and traces that turning leads to one another."""

from traceclasses.alphabets import taken_out
from traceclasses.exchanges import parts
from traceclasses.forms import least
from traceclasses.graphs import all_before, firsts
from traceclasses.prefixes import is_prefix, meet, rest
from traceclasses.roots import components, root


def commute(alphabet, word, other):
    """("pieces", rows) of which both words are products of powers, or ("parted", paper)."""
    paper = parts(alphabet, word + other, other + word)
    if paper is not None:
        return ("parted", paper)
    one = component_roots(alphabet, word)
    two = component_roots(alphabet, other)
    pieces = sorted({**one, **two})
    return ("pieces", tuple([(piece, one.get(piece, 0), two.get(piece, 0)) for piece in pieces]))


def component_roots(alphabet, word):
    """A dict of the roots of the components, each with its exponent."""
    return dict([root(alphabet, component) for component in components(alphabet, word)])


def transposed(alphabet, word, other):
    """The least words u and v, u as short as can be, of products u v and v u, or None."""
    turned = shortest_turn(alphabet, word, other)
    if turned is None or not is_prefix(alphabet, turned, word):
        return None
    return (turned, rest(alphabet, turned, word))


def conjugates(alphabet, word):
    """The rising tuple of the least words of all traces that are conjugate to one."""
    found = {}
    waiting = [least(alphabet, word)]
    while waiting:
        now = waiting.pop()
        if now not in found:
            found[now] = True
            # To turn a longer prefix is to turn its letters one by one.
            waiting.extend([least(alphabet, turn(alphabet, now, letter)) for letter in firsts(alphabet, now)])
    return tuple(sorted(found))


def way(alphabet, word, other):
    """A tuple of least words, as few as can be, each transposed from the one before, or None."""
    left = shortest_turn(alphabet, word, other)
    if left is None:
        return None
    found = [least(alphabet, word)]
    while left:
        turned = meet(alphabet, left, found[-1])
        found.append(least(alphabet, turn(alphabet, found[-1], turned)))
        left = rest(alphabet, turned, left)
    return tuple(found)


def turn(alphabet, word, prefix):
    """A word in which a prefix stands behind its rest."""
    return rest(alphabet, prefix, word) + prefix


def shortest_turn(alphabet, word, other):
    """The least word of the least trace z such that word z is alike z other, or None.

    What is turned on any row of transposed traces from word to other is such a trace z,
    and the least one is a prefix of each.
    """
    # In the least z no letter is turned more than one whole word further than a dependent one,
    # and some letter of each component less than one whole word: that makes at most so many.
    most = len(alphabet[1]) * len(word)
    found = ""
    now = word
    paper = parts(alphabet, now, other)
    while paper is not None:
        if paper[0] == "count" or len(found) > most:
            return None
        # As long as these two letters stand unlike, the first one of them must be turned, too.
        letter = taken_out(now, paper[1] + paper[2])[0]
        turned = up_to(alphabet, now, letter)
        found += turned
        now = turn(alphabet, now, turned)
        paper = parts(alphabet, now, other)
    return least(alphabet, found)


def up_to(alphabet, word, letter):
    """The first one of this letter in the word, behind all letters that stand before it."""
    places = all_before(alphabet, word)[word.index(letter)]
    return "".join([word[place] for place in sorted(places)]) + letter
