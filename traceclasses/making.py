"""Closed automata made from others and from words."""

from traceclasses.alphabets import independent
from traceclasses.automata import edge_table, end_table, minimal, started_at, state_behind
from traceclasses.building import block_numbers, built
from traceclasses.forms import least
from traceclasses.graphs import first_off, firsts


def both(alphabet, one, other):
    """Takes what both take."""
    return paired(alphabet, one, other, ((True, True),))


def either(alphabet, one, other):
    """Takes what at least one of both takes."""
    return paired(alphabet, one, other, ((True, True), (True, False), (False, True)))


def without(alphabet, one, other):
    """Takes what the first takes and the second does not."""
    return paired(alphabet, one, other, ((True, False),))


def paired(alphabet, one, other, wanted):
    """Takes the words for which (whether one takes it, whether other takes it) is wanted."""
    tables = (edge_table(one), edge_table(other))
    ends = (end_table(one), end_table(other))
    return built(
        alphabet[1], (one[2], other[2]),
        lambda pair, letter: (tables[0].get((pair[0], letter)), tables[1].get((pair[1], letter))),
        lambda pair: (pair[0] in ends[0], pair[1] in ends[1]) in wanted,
    )


def product(alphabet, one, other):
    """Takes the words that are alike a product of one that the first takes and one that the second takes."""
    first = minimal(alphabet, one)
    second = minimal(alphabet, other)
    tables = (edge_table(first), edge_table(second))
    leaders = leaders_by_barred(alphabet, first)
    going = block_leaders(second, alphabet[1])
    return built(
        alphabet[1], settled(leaders, going, [(0, 0, "")]),
        lambda ways, letter: settled(leaders, going, shared_out(alphabet, tables, ways, letter)),
        lambda ways: can_end(first, second, ways),
    )


def can_end(first, second, ways):
    """Whether on one of some ways both words are taken."""
    return any([state in first[3] and beside in second[3] for state, beside, _ in ways])


def shared_out(alphabet, tables, ways, letter):
    """The ways to share out a word's letters among two words, behind one letter more.

    A way is (state of the first, state of the second, letters barred from the first).
    """
    found = []
    for state, beside, barred in ways:
        if letter not in barred:
            found.append((tables[0][state, letter], beside, barred))
        found.append((state, tables[1][beside, letter], barred_also(alphabet, barred, letter)))
    return found


def barred_also(alphabet, barred, letter):
    """The rising text of the letters that are barred or dependent with a letter."""
    return "".join([x for x in alphabet[1] if x in barred or not independent(alphabet, x, letter)])


def settled(leaders, going, ways):
    """The rising tuple of the ways on which words can still be taken, those that are alike made one."""
    return tuple(sorted({(leaders[barred, state], beside, barred) for state, beside, barred in ways
                         if (barred, state) in leaders and beside in going}))


def leaders_by_barred(alphabet, automaton):
    """A dict: by (barred letters, state) the state's leader for words without these letters."""
    found = {}
    for barred in barred_texts(alphabet):
        letters = [letter for letter in alphabet[1] if letter not in barred]
        for state, leader in block_leaders(automaton, letters).items():
            found[barred, state] = leader
    return found


def barred_texts(alphabet):
    """All texts of letters that letters that are given to the second word bar from the first."""
    found = {"": True}
    for letter in alphabet[1]:
        for barred in list(found):
            found[barred_also(alphabet, barred, letter)] = True
    return list(found)


def block_leaders(automaton, letters):
    """A dict: by states from which some word of these letters is taken the least state from
    which the same ones are. The automaton has an edge for each state and letter.
    """
    table = edge_table(automaton)
    rows = [[table[state, letter] for letter in letters] for state in range(automaton[1])]
    flags = [state in automaton[3] for state in range(automaton[1])]
    numbers = block_numbers(rows, flags)
    # From states that take nothing letters lead to such states only, and all of them are one block.
    return {state: numbers.index(number) for state, number in enumerate(numbers)
            if flags[state] or any([numbers[other] != number for other in rows[state]])}


def of_words(alphabet, words):
    """Takes the words that are alike some of a tuple of words."""
    start = tuple(sorted({least(alphabet, word) for word in words}))
    return built(
        alphabet[1], start,
        lambda rests, letter: rests_behind(alphabet, rests, letter),
        lambda rests: "" in rests,
    )


def rests_behind(alphabet, rests, letter):
    """The rising tuple of what follows behind a letter in those traces that can begin with it."""
    found = [first_off(rest, letter) for rest in rests if letter in firsts(alphabet, rest)]
    return tuple(sorted({least(alphabet, rest) for rest in found}))


def behind(alphabet, automaton, word):
    """Takes the words v with which the word and v behind it are taken."""
    return started_at(alphabet, automaton, state_behind(automaton, word))
