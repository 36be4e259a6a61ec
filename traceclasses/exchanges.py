"""Exchanges of neighbouring letters, and what parts words that are not alike."""

from traceclasses.alphabets import independent, letter_pairs, taken_out
from traceclasses.errors import ExchangeFault


def parts(alphabet, word, other):
    """("count", x) or ("order", x, y), what parts two words; None if they are alike."""
    letters = alphabet[1]
    for letter in letters:
        if word.count(letter) != other.count(letter):
            return ("count", letter)
    for pair in letter_pairs(letters):
        low, high = pair
        if not independent(alphabet, low, high) and taken_out(word, pair) != taken_out(other, pair):
            return ("order", low, high)
    return None


def exchanges(alphabet, word, other):
    """As few places of exchanges as can be from one word to the other, or None."""
    if parts(alphabet, word, other) is not None:
        return None
    places = []
    now = word
    for at, letter in enumerate(other):
        # Like letters never pass one another, so the first one left belongs here.
        # It passes only letters that stand behind it in the other word: none in vain.
        found = now.index(letter, at)
        for place in range(found - 1, at - 1, -1):
            places.append(place)
            now = swapped(now, place)
    return tuple(places)


def swapped(word, place):
    """The word in which the letter at this place and the next one have changed places."""
    return word[:place] + word[place + 1] + word[place] + word[place + 2:]


def exchanged(alphabet, word, places):
    """The word behind exchanges at these places; raises ExchangeFault."""
    now = word
    for number, place in enumerate(places):
        if not can_exchange(alphabet, now, place):
            raise ExchangeFault(number)
        now = swapped(now, place)
    return now


def can_exchange(alphabet, word, place):
    """Whether the place has a next one, and their letters are independent."""
    # An index below 0 would be taken from the end of the word.
    return 0 <= place < len(word) - 1 and independent(alphabet, word[place], word[place + 1])


def distance(alphabet, word, other):
    """How many exchanges lead at least from one word to the other, or None."""
    places = exchanges(alphabet, word, other)
    if places is None:
        return None
    return len(places)
