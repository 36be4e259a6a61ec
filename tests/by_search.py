"""What the tests reckon plainly from the definitions, without the package, and their alphabets."""

import itertools
import random
import time

ALL_PAIRS = tuple(x + y for x in "abcdef" for y in "abcdef" if x < y)

EXAMPLE = ("alphabet", "abcd", ("ac", "bd"))
ALL_FREE = ("alphabet", "abcdef", ALL_PAIRS)
NO_PAIRS = ("alphabet", "abcdef", ())
ONE_LETTER = ("alphabet", "c", ())
MIXED = ("alphabet", "abcdef", ("ac", "ad", "af", "bd", "be", "cf", "de"))
# In this one each letter is dependent with its neighbours only.
ROW = ("alphabet", "abcdef", tuple(pair for pair in ALL_PAIRS if ord(pair[1]) - ord(pair[0]) > 1))
# In this one all letters are dependent with a, and with no other letter but themselves.
STAR = ("alphabet", "abcdef", tuple(pair for pair in ALL_PAIRS if pair[0] != "a"))
LOTS = ("alphabet", "abcdef", ("ad", "ae", "af", "bd", "be", "bf", "cd", "ce", "cf"))
GAPS = ("alphabet", "bdf", ("bf",))

SEVERAL = (EXAMPLE, ALL_FREE, NO_PAIRS, ONE_LETTER, MIXED, ROW, STAR, LOTS, GAPS)


def alphabets(letters):
    """All alphabets of these letters."""
    pairs = [x + y for x in letters for y in letters if x < y]
    for many in range(len(pairs) + 1):
        for chosen in itertools.combinations(pairs, many):
            yield ("alphabet", letters, chosen)


def words(letters, n):
    """All words of n letters, rising."""
    return ["".join(word) for word in itertools.product(letters, repeat=n)]


def words_up_to(letters, n):
    return [word for many in range(n + 1) for word in words(letters, many)]


def some_words(alphabet, n, many):
    """So many words of n letters, by chance but the same each time."""
    chance = random.Random(n)
    return ["".join(chance.choice(alphabet[1]) for _ in range(n)) for _ in range(many)]


def shuffled(word, many):
    """So many words of the same letters, by chance but the same each time."""
    chance = random.Random(word)
    return ["".join(chance.sample(word, len(word))) for _ in range(many)]


def are_free(alphabet, x, y):
    return x + y in alphabet[2] or y + x in alphabet[2]


def neighbours(alphabet, word):
    """(place, word) for each exchange, straight from the pairs."""
    for k in range(len(word) - 1):
        x, y = word[k], word[k + 1]
        if are_free(alphabet, x, y):
            yield k, word[:k] + y + x + word[k + 2:]


def reached(alphabet, word):
    """All words alike one, each with its fewest exchanges, breadth first."""
    far = {word: 0}
    queue = [word]
    for now in queue:
        for _, other in neighbours(alphabet, now):
            if other not in far:
                far[other] = far[now] + 1
                queue.append(other)
    return far


LEAST = {}


def told(alphabet, word):
    """The least word of the trace; kept for all words that are alike it."""
    known = LEAST.setdefault(alphabet, {})
    if word not in known:
        alike = reached(alphabet, word)
        known.update(dict.fromkeys(alike, min(alike)))
    return known[word]


def one_of_each(alphabet, row):
    """The least words of the traces of some words, each once, in the order of texts."""
    return sorted({told(alphabet, word) for word in row})


def least_words(alphabet, n):
    """The least words of all traces of n letters, rising, by going through all words."""
    return one_of_each(alphabet, words(alphabet[1], n))


def places_before(alphabet, word):
    """For each place the set of all places before it, as [c4] says."""
    found = []
    for k, letter in enumerate(word):
        row = {j for j in range(k) if not are_free(alphabet, word[j], letter)}
        grown = True
        while grown:
            more = {i for j in row for i in found[j]} - row
            row |= more
            grown = bool(more)
        found.append(row)
    return found


def all_prefixes(alphabet, word):
    """The least words of all prefixes, shorter ones first, by the beginnings of all alike words."""
    beginnings = {other[:k] for other in reached(alphabet, word) for k in range(len(word) + 1)}
    return sorted(one_of_each(alphabet, beginnings), key=len)


def turnings(alphabet, word):
    """(length of u, u, the trace v u) for all products u v of the trace, all as least words; sorted."""
    splits = {(other[:k], other[k:]) for other in reached(alphabet, word) for k in range(len(word) + 1)}
    return sorted({(len(u), told(alphabet, u), told(alphabet, v + u)) for u, v in splits})


def turned_from(alphabet, word):
    """For all traces that turning again and again leads to: how many times at least."""
    start = told(alphabet, word)
    far = {start: 0}
    queue = [start]
    for now in queue:
        for _, _, other in turnings(alphabet, now):
            if other not in far:
                far[other] = far[now] + 1
                queue.append(other)
    return far


def quick(case, reckon, *more):
    """What a function answers; the test fails if that takes a noticeable time."""
    began = time.perf_counter()
    found = reckon(*more)
    case.assertLess(time.perf_counter() - began, 1, (reckon, more))
    return found
