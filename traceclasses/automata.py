"""Automata ("automaton", many, start, ends, edges): what they take, and what tells two apart."""

from traceclasses.building import built


def takes(automaton, word):
    """Whether edges lead by the word's letters from the start to one of the ends."""
    return state_behind(automaton, word) in automaton[3]


def state_behind(automaton, word):
    """The state to which edges lead by the word's letters from the start, or None."""
    table = edge_table(automaton)
    state = automaton[2]
    for letter in word:
        state = table.get((state, letter))
    return state


def minimal(alphabet, automaton):
    """The automaton with the fewest states that takes the same words."""
    return started_at(alphabet, automaton, automaton[2])


def started_at(alphabet, automaton, start):
    """The automaton with the fewest states that takes what this one does from a state on."""
    table = edge_table(automaton)
    ends = end_table(automaton)
    return built(
        alphabet[1], start,
        lambda state, letter: table.get((state, letter)),
        lambda state: state in ends,
    )


def edge_table(automaton):
    """A dict: where edges lead, by (state, letter). None, which it has not, stands for no state."""
    return {(state, letter): other for state, letter, other in automaton[4]}


def end_table(automaton):
    """A dict of all ends."""
    return {state: True for state in automaton[3]}


def equal(alphabet, automaton, other):
    """None if both take the same words, else the least of the shortest words that just one takes."""
    ends = (end_table(automaton), end_table(other))
    tables = (edge_table(automaton), edge_table(other))
    row = [("", automaton[2], other[2])]
    seen = {(automaton[2], other[2]): True}
    while row:
        for word, state, beside in row:
            if (state in ends[0]) != (beside in ends[1]):
                return word
        row = one_letter_on(alphabet[1], tables, row, seen)
    return None


def one_letter_on(letters, tables, row, seen):
    """The rows (word, state, beside) behind one letter more, for pairs that are not yet seen."""
    found = []
    for word, state, beside in row:
        for letter in letters:
            pair = (tables[0].get((state, letter)), tables[1].get((beside, letter)))
            if pair not in seen:
                seen[pair] = True
                found.append((word + letter, pair[0], pair[1]))
    return found
