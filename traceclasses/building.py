"""Automata with the fewest states, made from states of any kind that letters lead on."""


def built(letters, start, follow, is_end):
    """The automaton of all states that can be reached, those that are alike made one.

    follow(state, letter) is the next state, is_end(state) whether words may end there.
    The states are numbered from 0, the start, on breadth first by letters.
    """
    states, rows = explored(letters, start, follow)
    flags = [is_end(state) for state in states]
    return joined(letters, rows, flags, block_numbers(rows, flags))


def explored(letters, start, follow):
    """All states that can be reached, breadth first, and for each one a row of the numbers
    of those to which the letters lead.
    """
    numbers = {start: 0}
    states = [start]
    rows = []
    while len(rows) < len(states):
        row = [follow(states[len(rows)], letter) for letter in letters]
        for state in row:
            if state not in numbers:
                numbers[state] = len(states)
                states.append(state)
        rows.append([numbers[state] for state in row])
    return (states, rows)


def block_numbers(rows, flags):
    """For each state the number of its block: states of one block take the same words."""
    members = [{}, {}]
    numbers = [1 if flag else 0 for flag in flags]
    for state, number in enumerate(numbers):
        members[number][state] = True
    columns = sources(rows)
    # A block that has been split needs only its lesser part as a new reason to split others.
    waiting = [0, 1]
    while waiting:
        reason = list(members[waiting.pop()])
        for column in columns:
            leading = led_into(column, reason, numbers)
            for number, inside in leading.items():
                if len(inside) < len(members[number]):
                    waiting.append(len(members))
                    split(members, numbers, number, inside)
    return numbers


def sources(rows):
    """For each letter and state the list of the states from which the letter leads there."""
    columns = [[[] for _ in rows] for _ in rows[0]]
    for state, row in enumerate(rows):
        for at, other in enumerate(row):
            columns[at][other].append(state)
    return columns


def led_into(column, reason, numbers):
    """A dict: by the numbers of blocks their states from which a letter leads into the reason."""
    found = {}
    for state in reason:
        for source in column[state]:
            found.setdefault(numbers[source], []).append(source)
    return found


def split(members, numbers, number, inside):
    """Moves the lesser part of a block, what is inside or what is not, to a new block."""
    whole = members[number]
    lesser = {state: True for state in inside}
    if 2 * len(lesser) > len(whole):
        lesser = {state: True for state in whole if state not in lesser}
    for state in lesser:
        del whole[state]
        numbers[state] = len(members)
    members.append(lesser)


def joined(letters, rows, flags, numbers):
    """The automaton whose states are the blocks, in the order of their first states."""
    # States are in the order of the least of the shortest words that lead to them, so are blocks.
    places = {}
    chosen = []
    for state, number in enumerate(numbers):
        if number not in places:
            places[number] = len(chosen)
            chosen.append(state)
    ends = [at for at, state in enumerate(chosen) if flags[state]]
    edges = [(at, letter, places[numbers[other]])
             for at, state in enumerate(chosen) for letter, other in zip(letters, rows[state])]
    return ("automaton", len(chosen), 0, tuple(ends), tuple(edges))
