"""The words that are told for a trace, and all the words of it."""

from traceclasses.graphs import first_off, firsts, height, levels, ways_off


def least(alphabet, word):
    """The least word of the trace."""
    return taken_in_turn(alphabet, word, 0)


def greatest(alphabet, word):
    """The greatest word of the trace."""
    return taken_in_turn(alphabet, word, -1)


def taken_in_turn(alphabet, word, which):
    """The alike word whose letters are, one by one, this one of those that can come next."""
    found = ""
    left = word
    while left:
        letter = firsts(alphabet, left)[which]
        found += letter
        left = first_off(left, letter)
    return found


def steps(alphabet, word):
    """The tuple of the steps, texts of independent letters, as full as can be."""
    rows = [[] for _ in range(height(alphabet, word))]
    for letter, level in zip(word, levels(alphabet, word)):
        rows[level - 1].append(letter)
    return tuple(["".join(sorted(row)) for row in rows])


def words_of(alphabet, word):
    """The rising tuple of all words that are alike one."""
    endings = {"": [""]}
    for row in reversed(ways_off(alphabet, word)[:-1]):
        for left in row:
            endings[left] = words_from(alphabet, left, endings)
    return tuple(endings[word])


def words_from(alphabet, left, endings):
    """The rising list of all words of what is left, by those of what is one letter shorter."""
    found = []
    for letter in firsts(alphabet, left):
        found.extend([letter + ending for ending in endings[first_off(left, letter)]])
    return found
