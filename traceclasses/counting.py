"""Numbers of words, prefixes and traces, and the places of traces among others."""

from traceclasses.alphabets import free, independent
from traceclasses.forms import least
from traceclasses.graphs import ways_off


def cliques(alphabet):
    """All rising texts of pairwise independent letters, those of fewer letters first."""
    found = []
    row = [""]
    while row:
        found.extend(row)
        row = [clique + letter for clique in row for letter in alphabet[1]
               if letter > clique[-1:] and free(alphabet, clique, letter)]
    return tuple(found)


def count_words(alphabet, word):
    """How many words are alike one."""
    return ways_off(alphabet, word)[-1][""]


def count_prefixes(alphabet, word):
    """How many traces are prefixes of one."""
    return sum([len(row) for row in ways_off(alphabet, word)])


def count_traces(alphabet, n):
    """How many traces of n letters there are."""
    if n < 0:
        return 0
    # The sum over all cliques is 0, so the empty one counts what the others do with the other sign.
    signed = [(len(clique), 1 if len(clique) % 2 == 1 else -1) for clique in cliques(alphabet) if clique]
    counts = [1]
    for many in range(1, n + 1):
        counts.append(sum([sign * counts[many - size] for size, sign in signed if size <= many]))
    return counts[n]


def traces(alphabet, n):
    """The rising tuple of the least words of all traces of n letters."""
    table = followers(alphabet)
    rows = [("", "")]
    for _ in range(n):
        rows = [(word + letter, behind) for word, barred in rows for letter, behind in table[barred]]
    return tuple([word for word, _ in rows])


def nth(alphabet, n, place):
    """The least word of this place among those of all traces of n letters."""
    table = followers(alphabet)
    counts = count_endings(table, n)
    word = ""
    barred = ""
    for left in reversed(range(n)):
        letter, barred, place = follower_at(table[barred], counts[left], place)
        word += letter
    return word


def follower_at(row, endings, place):
    """The letter that comes first in the ending of this place, what is barred behind it,
    and the place of what follows among the endings behind this letter.
    """
    at = 0
    while place >= endings[row[at][1]]:
        place -= endings[row[at][1]]
        at += 1
    letter, behind = row[at]
    return (letter, behind, place)


def place_of(alphabet, word):
    """The place of the trace among all those of as many letters."""
    table = followers(alphabet)
    counts = count_endings(table, len(word))
    place = 0
    barred = ""
    for at, letter in enumerate(least(alphabet, word)):
        lesser = [pair for pair in table[barred] if pair[0] < letter]
        place += count_behind(lesser, counts[len(word) - at - 1])
        barred = barred_behind(alphabet, barred, letter)
    return place


def barred_behind(alphabet, barred, letter):
    """The letters that cannot follow in a least word, one letter behind those of barred."""
    # A letter is barred if it could pass all back to a greater one, and so stand ahead of it.
    return "".join([x for x in alphabet[1] if independent(alphabet, x, letter) and (x in barred or x < letter)])


def followers(alphabet):
    """For each text of barred letters that there is, from "" on: a rising list of
    (letter that can follow in a least word, the barred letters behind it).
    """
    table = {}
    waiting = [""]
    while waiting:
        barred = waiting.pop()
        if barred not in table:
            letters = [x for x in alphabet[1] if x not in barred]
            table[barred] = [(x, barred_behind(alphabet, barred, x)) for x in letters]
            waiting.extend([behind for _, behind in table[barred]])
    return table


def count_endings(table, n):
    """For each number of letters from 0 to n a dict: by the barred letters, in how many
    ways so many letters can follow in a least word.
    """
    counts = [{barred: 1 for barred in table}]
    for _ in range(n):
        fewer = counts[-1]
        counts.append({barred: count_behind(table[barred], fewer) for barred in table})
    return counts


def count_behind(row, endings):
    """How many endings there are behind all the letters of a row of followers."""
    return sum([endings[behind] for _, behind in row])
