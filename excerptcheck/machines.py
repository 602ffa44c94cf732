"""The machines of patterns, and the evidence that a pattern is too complex."""

from excerptcheck.acceptors import accepts, first_sequences, minimal, parting
from excerptcheck.building import node_acceptor
from excerptcheck.errors import TooComplex
from excerptcheck.grouping import divisions
from excerptcheck.trees import operands_of

MOST_CLASSES = 12


def machine(reads, tree):
    """The machine of a pattern over `reads`."""
    _, least = _examined(reads, tree)
    if _is_too_large(least):
        raise TooComplex("a part of the pattern has too many classes")
    return least


def complexity(reads, tree):
    """None if a pattern is not too complex over `reads`, otherwise the evidence."""
    part, least = _examined(reads, tree)
    if not _is_too_large(least):
        return None
    sequences = first_sequences(least)[:MOST_CLASSES + 1]
    return part, sequences, _tests(least, sequences)


def alike(reads, first, second):
    """The first sequence that matches exactly one of two patterns, None if there is none."""
    return parting(machine(reads, first), machine(reads, second))


def _examined(reads, tree):
    """The first part with too many classes, or else the pattern itself, and the least acceptor of it."""
    operands = []
    for operand in operands_of(tree):
        part, least = _examined(reads, operand)
        if _is_too_large(least):
            return part, least
        operands.append(least)
    return tree, minimal(node_acceptor(reads, tree, operands))


def _is_too_large(least):
    return len(least[1]) > MOST_CLASSES


def _tests(least, sequences):
    """Tests that tell apart the first members of the first classes, which are the first states."""
    marks = [state in least[2] for state in range(len(least[1]))]
    divided = divisions(least[1], marks)
    tests = []
    while True:
        pair = _not_told_apart(least, sequences, tests)
        if pair is None:
            return tuple(tests)
        # Each test divides a group of the sequences that no test told apart, so there are fewer tests than sequences.
        tests.append(_telling_apart(least, divided, pair))


def _not_told_apart(least, sequences, tests):
    """Two classes whose first members no test tells apart, None if there are none."""
    met = {}
    for state, sequence in enumerate(sequences):
        results = tuple([accepts(least, sequence + test) for test in tests])
        if results in met:
            return met[results], state
        met[results] = state
    return None


def _telling_apart(least, divided, pair):
    """A shortest sequence that leads exactly one of two states to an accepting one."""
    reads, rows, _ = least
    first, second = pair
    left = 0
    while divided[left][first] == divided[left][second]:
        left += 1
    found = []
    while left > 0:
        left -= 1
        groups = divided[left]
        index = 0
        while groups[rows[first][index]] == groups[rows[second][index]]:
            index += 1
        found.append(reads[index])
        first, second = rows[first][index], rows[second][index]
    return tuple(found)
