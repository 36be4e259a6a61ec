"""Automata that take with each word all that are alike it."""

from traceclasses.alphabets import independent
from traceclasses.automata import edge_table, end_table, equal, minimal, takes
from traceclasses.counting import followers
from traceclasses.exchanges import can_exchange, swapped


def is_closed(alphabet, automaton):
    """None if an automaton is closed, else (word, other), the least of the shortest words that
    are taken while other, got from it by one exchange, is not.
    """
    least_one = minimal(alphabet, automaton)
    ends = end_table(least_one)
    table = edge_table(least_one)
    parting = parting_letters(alphabet, least_one[1], table)
    # A walk (state, beside, late) goes by a word and by another one, which is behind by one
    # letter, late, while an exchange is under way. Ahead of it both states are the same.
    row = [("", [(0, 0, "")])]
    seen = {(0, 0, ""): True}
    while row:
        for word, walks in row:
            if any([late == "" and state in ends and beside not in ends for state, beside, late in walks]):
                return (word, first_not_taken(alphabet, automaton, word))
        row = walks_on(alphabet[1], table, parting, row, seen)
    return None


def parting_letters(alphabet, many, table):
    """A dict: by (state, letter) the letters whose exchange with this one leads from this state
    to another one; only where there are some.
    """
    pairs = [(x, y) for x in alphabet[1] for y in alphabet[1] if independent(alphabet, x, y)]
    found = {}
    for state in range(many):
        for x, y in pairs:
            if table[table[state, x], y] != table[table[state, y], x]:
                found[state, x] = found.get((state, x), "") + y
    return found


def first_not_taken(alphabet, automaton, word):
    """The first word, by the place of one exchange, that is not taken."""
    places = [place for place in range(len(word) - 1) if can_exchange(alphabet, word, place)]
    others = [swapped(word, place) for place in places]
    return [other for other in others if not takes(automaton, other)][0]


def walks_on(letters, table, parting, row, seen):
    """The rows (word, walks) behind one letter more, for walks that are not yet seen."""
    # Walks of one word stay together, so that the words of a row keep their order.
    found = []
    for word, walks in row:
        for letter in letters:
            reached = [other for walk in walks for other in walk_on(table, parting, walk, letter)]
            fresh = not_seen(reached, seen)
            if fresh:
                found.append((word + letter, fresh))
    return found


def not_seen(walks, seen):
    """The list of the walks that are not yet seen, each once; from now on they are."""
    found = []
    for walk in walks:
        if walk not in seen:
            seen[walk] = True
            found.append(walk)
    return found


def walk_on(table, parting, walk, letter):
    """The walks to which a letter leads one."""
    state, beside, late = walk
    on = table[state, letter]
    if late == "":
        found = [(on, table[beside, letter], "")]
        if state == beside and (state, letter) in parting:
            found.append((on, beside, letter))
        return found
    if letter in parting[beside, late]:
        return [(on, table[table[beside, letter], late], "")]
    return []


def count_taken(alphabet, automaton, n):
    """How many traces of n letters a closed automaton takes."""
    if n < 0:
        return 0
    ends = end_table(automaton)
    edges = edge_table(automaton)
    table = followers(alphabet)
    # Of each trace the least word is counted: by the state, and by what cannot follow in it.
    row = {(automaton[2], ""): 1}
    for _ in range(n):
        row = counts_on(edges, table, row)
    return sum([many for (state, _), many in row.items() if state in ends])


def counts_on(edges, table, row):
    """The numbers of least words, by (state, barred letters), behind one letter more."""
    found = {}
    for (state, barred), many in row.items():
        for letter, behind in table[barred]:
            if (state, letter) in edges:
                place = (edges[state, letter], behind)
                found[place] = found.get(place, 0) + many
    return found


def first_taken(alphabet, automaton):
    """The least of the shortest words that an automaton takes, or None."""
    nothing = ("automaton", 1, 0, (), ())
    return equal(alphabet, automaton, nothing)
