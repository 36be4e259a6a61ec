"""What stands before what in a word, and what can be taken off its front."""

from traceclasses.alphabets import free, independent


def graph(alphabet, word):
    """For each place the rising tuple of the places directly before it."""
    rows = all_before(alphabet, word)
    return tuple([direct(rows, row) for row in rows])


def direct(rows, row):
    """Of the places in a row the rising tuple of those that stand before no other one of them."""
    return tuple(sorted([place for place in row if not any([place in rows[other] for other in row])]))


def all_before(alphabet, word):
    """For each place all places that stand before it, as the keys of a dict."""
    return carried_on([[other for other in range(place) if not independent(alphabet, word[other], letter)]
                       for place, letter in enumerate(word)])


def carried_on(near):
    """For each place all places before it, as the keys of a dict, by lists of some of them:
    those that stand before it by themselves.
    """
    rows = []
    for places in near:
        row = {}
        for other in places:
            row[other] = True
            row.update(rows[other])
        rows.append(row)
    return rows


def firsts(alphabet, word):
    """The rising text of the letters with which an alike word can begin."""
    seen = ""
    found = []
    for letter in word:
        if letter not in seen:
            if free(alphabet, letter, seen):
                found.append(letter)
            seen += letter
    return "".join(sorted(found))


def lasts(alphabet, word):
    """The rising text of the letters with which an alike word can end."""
    return firsts(alphabet, word[::-1])


def levels(alphabet, word):
    """For each place the number of its step, from 1."""
    found = []
    for place, letter in enumerate(word):
        below = [found[k] for k in range(place) if not independent(alphabet, word[k], letter)]
        found.append(max(below, default=0) + 1)
    return found


def height(alphabet, word):
    """How many steps a word has."""
    return max(levels(alphabet, word), default=0)


def width(alphabet, word):
    """How many places there are at most of which none stands before another."""
    # Such places, as many as can be, are the first ones of what is left behind some prefix.
    return max([len(firsts(alphabet, left)) for row in ways_off(alphabet, word) for left in row])


def ways_off(alphabet, word):
    """For each number of letters that are taken off the front, from 0 to all: a dict of
    what can be left then, each with the number of orders in which they are taken off.
    """
    # Equal letters go in their order, so what is left tells which prefix is taken off.
    rows = [{word: 1}]
    for _ in word:
        rows.append(one_more_off(alphabet, rows[-1]))
    return rows


def one_more_off(alphabet, row):
    """The dict of ways_off for one letter more."""
    found = {}
    for left, ways in row.items():
        for letter in firsts(alphabet, left):
            shorter = first_off(left, letter)
            found[shorter] = found.get(shorter, 0) + ways
    return found


def first_off(word, letter):
    """The word without the first one of this letter."""
    return word.replace(letter, "", 1)
