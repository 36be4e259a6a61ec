"""Alphabets ("alphabet", letters, pairs) and what is independent by them."""

from traceclasses.errors import AlphabetFault

LETTERS = "abcdef"


def check(alphabet):
    """None; raises AlphabetFault for the first fault of an alphabet."""
    _, letters, pairs = alphabet
    if not letters or not rising(letters) or taken_out(letters, LETTERS) != letters:
        raise AlphabetFault("letters")
    possible = letter_pairs(letters)
    if not rising(pairs) or not all(pair in possible for pair in pairs):
        raise AlphabetFault("pairs")


def rising(row):
    """Whether each item of a text or a tuple is less than the next one."""
    return all(low < high for low, high in zip(row, row[1:]))


def letter_pairs(letters):
    """The texts of two letters of a rising text, the lesser one first; they rise."""
    return [low + high for low in letters for high in letters if low < high]


def independent(alphabet, x, y):
    """Whether two letters are independent."""
    # Pairs tell the lesser letter first; no pair has a letter twice.
    return min(x, y) + max(x, y) in alphabet[2]


def free(alphabet, word, other):
    """Whether each letter of one word is independent of each one of the other."""
    return all(independent(alphabet, x, y) for x in word for y in other)


def taken_out(word, letters):
    """The word without all letters but these."""
    return "".join(letter for letter in word if letter in letters)
