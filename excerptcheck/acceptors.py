"""Acceptors: `(reads, rows, accepting)`."""

from excerptcheck.exploring import explored, first_sequence, first_steps
from excerptcheck.grouping import joined


def states_along(acceptor, sequence):
    """The states after all beginnings of a sequence, from the empty one to the whole sequence."""
    reads, rows, _ = acceptor
    states = [0]
    for symbol in sequence:
        states.append(rows[states[-1]][reads.index(symbol)])
    return tuple(states)


def accepts(acceptor, sequence):
    """True if a sequence is accepted."""
    return states_along(acceptor, sequence)[-1] in acceptor[2]


def state_behind(acceptor, state, sequence):
    """The state to which a state leads by a sequence."""
    reads, rows, _ = acceptor
    for symbol in sequence:
        state = rows[state][reads.index(symbol)]
    return state


def first_sequences(acceptor):
    """The first sequence of each state, None for a state to which no sequence leads."""
    reads, rows, _ = acceptor
    states, near = explored(0, lambda state: rows[state])
    steps = first_steps(near)
    found = {state: first_sequence(reads, steps, number) for number, state in enumerate(states)}
    return tuple([found.get(state) for state in range(len(rows))])


def minimal(acceptor):
    """The least acceptor that accepts the same."""
    reads, rows, accepting = acceptor
    good = {state: True for state in accepting}
    states, near = explored(0, lambda state: rows[state])
    marks = [state in good for state in states]
    firsts, least = joined(near, marks)
    return reads, least, tuple([number for number, state in enumerate(firsts) if marks[state]])


def first_accepted(acceptor):
    """The first sequence that is accepted, None if there is none."""
    reads, rows, accepting = acceptor
    good = {state: True for state in accepting}
    states, near = explored(0, lambda state: rows[state])
    for number, state in enumerate(states):
        if state in good:
            return first_sequence(reads, first_steps(near), number)
    return None


def parting(first, second):
    """The first sequence that exactly one of two acceptors accepts, None if they accept the same."""
    good = {state: True for state in first[2]}
    others = {state: True for state in second[2]}
    pairs, near = explored((0, 0), lambda pair: list(zip(first[1][pair[0]], second[1][pair[1]])))
    for number, (state, other) in enumerate(pairs):
        if (state in good) != (other in others):
            return first_sequence(first[0], first_steps(near), number)
    return None
