"""Acceptors of patterns, put together from the least acceptors of their operands.

A set of classes of an operand is kept as an integer: bit c tells whether class c is in it.
"""

from excerptcheck.exploring import explored
from excerptcheck.matching import belongs


def node_acceptor(reads, tree, operands):
    """An acceptor of what matches a node, made of the least acceptors of its operands."""
    if tree[0] == "empty":
        return _empty(reads)
    if tree[0] == "class":
        return _class(reads, tree)
    if tree[0] == "not":
        return _other(operands[0])
    if tree[0] == "star":
        return _repeated(operands[0])
    if tree[0] == "then":
        return _one_behind_the_other(operands[0], operands[1])
    return _paired(operands[0], operands[1], tree[0] == "and")


def _empty(reads):
    dead = (1,) * len(reads)
    return reads, (dead, dead), (0,)


def _class(reads, tree):
    dead = (2,) * len(reads)
    return reads, (tuple([1 if belongs(symbol, tree) else 2 for symbol in reads]), dead, dead), (1,)


def _other(operand):
    reads, rows, accepting = operand
    return reads, rows, tuple([state for state in range(len(rows)) if state not in accepting])


def _paired(first, second, in_both):
    """For "and" the sequences that both operands accept, for "or" those that one of them accepts."""
    def good(pair):
        one = pair[0] in first[2]
        other = pair[1] in second[2]
        return one and other if in_both else one or other

    pairs, rows = explored((0, 0), lambda pair: list(zip(first[1][pair[0]], second[1][pair[1]])))
    return first[0], rows, _places(pairs, good)


def _one_behind_the_other(first, second):
    """A state is a class of the first operand, and the classes, under the second one, of what follows its matches."""
    ends = _bits(first[2])
    goals = _bits(second[2])

    def row_of(state):
        following = []
        for index, after in enumerate(first[1][state[0]]):
            # What follows a match that ends here is empty so far: class 0.
            begun = (ends >> after) & 1
            following.append((after, _moved(second[1], state[1], index) | begun))
        return following

    states, rows = explored((0, ends & 1), row_of)
    return first[0], rows, _places(states, lambda state: (state[1] & goals) != 0)


def _repeated(operand):
    """A state tells whether the sequence is empty, and the classes of what follows its proper matching beginnings."""
    reads, moves, accepting = operand
    goals = _bits(accepting)

    def good(state):
        return state[0] or (state[1] & goals) != 0

    def row_of(state):
        # A sequence that matches is itself a proper beginning of what comes next.
        classes = state[1] | 1 if good(state) else state[1]
        return [(False, _moved(moves, classes, index)) for index in range(len(reads))]

    states, rows = explored((True, 0), row_of)
    return reads, rows, _places(states, good)


def _places(states, good):
    return tuple([number for number, state in enumerate(states) if good(state)])


def _bits(classes):
    return sum([1 << number for number in classes])


def _moved(rows, classes, index):
    """The classes to which all these classes lead by the symbol with this index."""
    moved = 0
    for number, row in enumerate(rows):
        if (classes >> number) & 1:
            moved |= 1 << row[index]
    return moved
