"""Do the letters of an owner tell something in what is put out besides themselves?"""

from excerptcheck.errors import TooLarge
from excerptcheck.exploring import explored
from excerptcheck.least import columns_at
from excerptcheck.partings import parting_among

MOST_STATES = 400


def alike_but_for(owner, first, second):
    """True if two sequences have the same symbols, except for the letters of symbols that belong to the owner."""
    return _veiled(owner, first) == _veiled(owner, second)


def indiscretion(acceptor, machine, owner):
    """The first indiscretion about an owner, None if there is none.

    Pairs of sequences of the same length are read as sequences of pairs of symbols, by two machines each of which
    looks at one side of the pairs. Where these machines part, the outputs are not alike.
    """
    reads = acceptor[0]
    pairs = [(index, other) for index, symbol in enumerate(reads) for other, second in enumerate(reads)
             if alike_but_for(owner, (symbol,), (second,))]
    both = _of_both(acceptor, pairs)
    firsts = _looking(machine, owner, both[0], [index for index, _ in pairs])
    seconds = _looking(machine, owner, both[0], [other for _, other in pairs])
    found = parting_among(both, firsts, seconds, most=MOST_STATES)
    if found is None:
        return None
    sequence, position = found
    return tuple([pair[0] for pair in sequence]), tuple([pair[1] for pair in sequence]), position


def _veiled(owner, sequence):
    """A sequence in which the symbols of an owner have lost their letters."""
    return tuple([owner if symbol[0] == owner else symbol for symbol in sequence])


def _of_both(acceptor, pairs):
    """The acceptor of the sequences of pairs of symbols both sides of which are accepted."""
    reads, rows, accepting = acceptor

    def row_of(states):
        first, second = rows[states[0]], rows[states[1]]
        return [(first[index], second[other]) for index, other in pairs]

    # There are at least as many quadruples as pairs of states of the acceptor.
    found = explored((0, 0), row_of, most=MOST_STATES)
    if found is None:
        raise TooLarge(None)
    good = [number for number, (state, other) in enumerate(found[0]) if state in accepting and other in accepting]
    return tuple([(reads[index], reads[other]) for index, other in pairs]), found[1], tuple(good)


def _looking(machine, owner, reads, places):
    """The machine that reads pairs of symbols, looks only at the symbols at these places, and veils its outputs."""
    _, left, right, outputs = machine
    veiled = [[tuple([_veiled(owner, output) for output in row]) for row in rows] for rows in outputs]
    return reads, columns_at(left, places), columns_at(right, places), columns_at(veiled, places)
