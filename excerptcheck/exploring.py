"""Going through the states that sequences lead to.

Rows are *near* if state 0 comes first and every other state is numbered when it is met for the first time,
state after state and symbol after symbol. So near states are in the order of their first sequences.
"""


def explored(start, row_of, *, most=None):
    """The states that are met from `start` on, in near order, and their near rows.

    `row_of(state)` lists the states that follow a state. The result is None if there are more than `most`.
    """
    states = [start]
    numbers = {start: 0}
    rows = []
    while len(rows) < len(states):
        following = row_of(states[len(rows)])
        for state in following:
            if state not in numbers:
                numbers[state] = len(states)
                states.append(state)
        rows.append(tuple([numbers[state] for state in following]))
        if most is not None and len(states) > most:
            return None
    return states, tuple(rows)


def first_steps(rows):
    """For each state of near rows but 0, the state before it and the index of the last symbol in its first sequence."""
    steps = {0: None}
    for state, row in enumerate(rows):
        for index, after in enumerate(row):
            if after not in steps:
                steps[after] = (state, index)
    return steps


def first_sequence(reads, steps, state):
    """The first sequence of a state of near rows, by their first steps."""
    found = []
    while steps[state] is not None:
        state, index = steps[state]
        found.append(reads[index])
    return tuple(found[::-1])


def sources_of(rows):
    """For each index of a symbol and each state, the states that lead to it by this symbol."""
    found = [[[] for _ in rows] for _ in rows[0]]
    for state, row in enumerate(rows):
        for index, after in enumerate(row):
            found[index][after].append(state)
    return found
