"""Automata for the tests, and plain walks through them."""

import itertools
import random

from by_search import ALL_FREE, are_free
from traceclasses.automata import minimal


def walked(automaton, word):
    """Whether an automaton takes a word, straight from its edges."""
    state = automaton[2]
    for letter in word:
        further = [other for source, by, other in automaton[4] if source == state and by == letter]
        if not further:
            return False
        state, = further
    return state in automaton[3]


def some_automata(letters, most, many):
    """So many automata of up to so many states, by chance but the same each time."""
    chance = random.Random(letters + str(most))
    return [one_by_chance(chance, letters, chance.randint(1, most)) for _ in range(many)]


def one_by_chance(chance, letters, many):
    share = chance.choice((0, 0.4, 0.8, 1, 1))
    edges = tuple((state, letter, chance.randrange(many))
                  for state in range(many) for letter in letters if chance.random() < share)
    ends = tuple(state for state in range(many) if chance.random() < 0.4)
    return ("automaton", many, chance.randrange(many), ends, edges)


def counter(letters, counted, many, ends):
    """Takes the words in which the number of counted letters, modulo many, is one of ends."""
    edges = tuple((state, letter, (state + (letter in counted)) % many) for state in range(many) for letter in letters)
    return ("automaton", many, 0, ends, edges)


def everything(letters):
    return counter(letters, "", 1, (0,))


def chain(letters, word):
    """Takes just one word, and has an edge for no other one."""
    edges = tuple((at, letter, at + 1) for at, letter in enumerate(word))
    return ("automaton", len(word) + 1, 0, (len(word),), edges)


def crossed(letters, one, other, rule):
    """The automaton of all pairs of states; rule tells ends by what both of them say. All edges must be there."""
    number = {pair: at for at, pair in enumerate(itertools.product(range(one[1]), range(other[1])))}
    steps = [{(state, letter): further for state, letter, further in automaton[4]} for automaton in (one, other)]
    ends = tuple(at for (x, y), at in number.items() if rule(x in one[3], y in other[3]))
    edges = tuple((at, letter, number[steps[0][x, letter], steps[1][y, letter]])
                  for (x, y), at in number.items() for letter in letters)
    return ("automaton", len(number), number[one[2], other[2]], ends, edges)


def many_states():
    """As minimal gives it: the words whose numbers of a, b, c and d are each 5 modulo 6; 6 ** 4 states."""
    letters = "abcdef"
    found = counter(letters, "a", 6, (5,))
    for letter in "bcd":
        found = minimal(ALL_FREE, crossed(letters, found, counter(letters, letter, 6, (5,)), min))
    return found


def dependent_lots(alphabet):
    """All texts of pairwise dependent letters of an alphabet."""
    letters = alphabet[1]
    rows = [lot for many in range(len(letters) + 1) for lot in itertools.combinations(letters, many)]
    return ["".join(lot) for lot in rows
            if not any(are_free(alphabet, x, y) for x, y in itertools.combinations(lot, 2))]


def closed_automata(alphabet, many):
    """So many closed automata: each is made of two that look at pairwise dependent letters only."""
    letters = alphabet[1]
    chance = random.Random(letters + "".join(alphabet[2]))
    found = []
    for _ in range(many):
        pair = [looking_at(chance, letters, chance.choice(dependent_lots(alphabet)), most) for most in (2, 3)]
        found.append(crossed(letters, *pair, chance.choice((min, max, lambda x, y: x and not y, lambda x, y: x != y))))
    return found


def looking_at(chance, letters, lot, most):
    """An automaton by chance, with all edges, in which all letters but those of the lot lead nowhere."""
    many = chance.randint(1, most)
    edges = tuple((state, letter, chance.randrange(many) if letter in lot else state)
                  for state in range(many) for letter in letters)
    ends = tuple(state for state in range(many) if chance.random() < 0.5)
    return ("automaton", many, 0, ends, edges)


def first_difference(letters, automaton, other, most):
    """The first word of at most so many letters, shorter ones first, that just one of both takes."""
    for word in in_order(letters, most):
        if walked(automaton, word) != walked(other, word):
            return word
    return None


def in_order(letters, most):
    """All words of at most so many letters, shorter ones first, then rising."""
    for many in range(most + 1):
        for word in itertools.product(letters, repeat=many):
            yield "".join(word)
