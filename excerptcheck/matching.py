"""Does a sequence match a pattern?

For every place of the sequence, each node gets the *ends* from there: an integer whose bit j tells whether
the symbols from the place up to place j match the node. So repetition needs no search.
"""


def belongs(symbol, tree):
    """True if a symbol belongs to the class of a "class" node."""
    _, negated, holders, letters = tree
    listed = _lists(holders, symbol[0]) and _lists(letters, symbol[1])
    return listed != negated


def _lists(characters, character):
    return characters == "" or character in characters


def matches(tree, sequence):
    """True if a sequence matches a pattern."""
    return beginnings_that_match(tree, sequence)[-1]


def beginnings_that_match(tree, sequence):
    """For each number of symbols, from 0 on, whether so many of the first symbols match a pattern."""
    ends = _ends(tree, sequence)[0]
    return [(ends >> many) & 1 == 1 for many in range(len(sequence) + 1)]


def ends_that_match(tree, sequence):
    """For each place, the one behind the last symbol included, whether the symbols from there on match a pattern."""
    many = len(sequence)
    return [(ends >> many) & 1 == 1 for ends in _ends(tree, sequence)]


def _ends(tree, sequence):
    name = tree[0]
    if name == "empty":
        return [1 << place for place in range(len(sequence) + 1)]
    if name == "class":
        return _class_ends(tree, sequence)
    first = _ends(tree[1], sequence)
    if name == "not":
        return _other_ends(first)
    if name == "star":
        return _repeated_ends(first)
    second = _ends(tree[2], sequence)
    if name == "then":
        return _joined_ends(first, second)
    if name == "or":
        return [ends | others for ends, others in zip(first, second)]
    return [ends & others for ends, others in zip(first, second)]


def _class_ends(tree, sequence):
    ends = [2 << place if belongs(symbol, tree) else 0 for place, symbol in enumerate(sequence)]
    # Behind the last symbol there is none that could belong to the class.
    return ends + [0]


def _other_ends(ends):
    every = (1 << len(ends)) - 1
    # No end lies before the place from which it is counted.
    return [(every >> place << place) & ~found for place, found in enumerate(ends)]


def _joined_ends(first, second):
    found = []
    known = reached = 0
    for ends in reversed(first):
        reached = _reached_further(ends, known, reached, second)
        known = ends
        found.append(reached)
    return found[::-1]


def _repeated_ends(ends):
    repeated = [0] * len(ends)
    known = reached = 0
    for place in range(len(ends) - 1, -1, -1):
        here = 1 << place
        # A turn that takes no symbol changes nothing and would ask for what is just being found.
        turns = ends[place] & ~here
        reached = _reached_further(turns, known, reached, repeated)
        known = turns
        repeated[place] = here | reached
    return repeated


def _reached_further(ends, known, reached, further):
    """The ends that are reached from `ends`; those that are reached from `known` are `reached`.

    The ends from neighbouring places are often nearly the same, so only the new ones are followed.
    """
    if known & ~ends:
        return _reached_ends(ends, further)
    return reached | _reached_ends(ends & ~known, further)


def _reached_ends(ends, further):
    """The ends that are reached from all these ends, by what `further` tells for each of them."""
    found = 0
    while ends:
        lowest = ends & -ends
        found |= further[lowest.bit_length() - 1]
        ends ^= lowest
    return found
