"""Least forms of two-way machines, and where two machines part."""

from excerptcheck.exploring import explored, first_sequence, first_steps
from excerptcheck.grouping import joined
from excerptcheck.symbols import precedes
from excerptcheck.twoway import outputs_along


def least_form(machine):
    """The least form of a two-way machine."""
    reads, left, right, outputs = machine
    lefts, near_left = explored(0, lambda state: left[state])
    rights, near_right = explored(0, lambda state: right[state])
    # Outputs at states that no sequence has tell nothing, so they are left out before states are compared.
    table = [[[outputs[before][index][behind] for behind in rights] for index in range(len(reads))] for before in lefts]
    kept_left, least_left = joined(near_left, _left_marks(table))
    kept_right, least_right = joined(near_right, _right_marks(table, len(rights)))
    least = [_chosen(table[before], kept_right) for before in kept_left]
    return reads, least_left, least_right, tuple(least)


def _left_marks(table):
    return [tuple([tuple(row) for row in rows]) for rows in table]


def _right_marks(table, many):
    return [tuple([row[behind] for rows in table for row in rows]) for behind in range(many)]


def _chosen(rows, places):
    return tuple([tuple([row[at] for at in places]) for row in rows])


def restricted(machine, reads):
    """The least form of a machine for sequences of the symbols of `reads` alone."""
    places = [machine[0].index(symbol) for symbol in reads]
    left = _chosen(machine[1], places)
    right = _chosen(machine[2], places)
    outputs = _chosen(machine[3], places)
    return least_form((reads, left, right, outputs))


def parting_sequence(first, second):
    """The first sequence on which two machines do not give the same, and its first position that shows it."""
    sequence = _first_difference(first, second)
    if sequence is None:
        return None
    outputs = list(zip(outputs_along(first, sequence), outputs_along(second, sequence)))
    position = 0
    while outputs[position][0] == outputs[position][1]:
        position += 1
    return sequence, position


def _first_difference(first, second):
    """The first sequence on which two machines do not give the same, None if there is none.

    What decides at a symbol are the pair of left states before it and the pair of right states behind it. So in
    the first such sequence the first sequence of the one pair stands before the symbol, and that of the other one
    behind it.
    """
    reads = first[0]
    lefts, near = explored((0, 0), lambda pair: list(zip(first[1][pair[0]], second[1][pair[1]])))
    steps = first_steps(near)
    ends = _first_ends(first, second)
    rows = _rows_of(first, [pair[0] for pair in ends])
    others = _rows_of(second, [pair[1] for pair in ends])
    tails = list(ends.values())
    best = None
    for number, (left, other) in enumerate(lefts):
        head = first_sequence(reads, steps, number)
        for index, symbol in enumerate(reads):
            at = _first_apart(rows[left][index], others[other][index])
            if at is not None:
                found = (*head, symbol, *tails[at])
                if best is None or precedes(found, best):
                    best = found
    return best


def _first_ends(first, second):
    """For each pair of right states the first sequence that has it, in the order of these sequences."""
    found = {(0, 0): ()}
    layer = [(0, 0)]
    while layer:
        longer = []
        # The layer is in order, so the first sequence that has a new pair is met first.
        for index, symbol in enumerate(first[0]):
            for pair in layer:
                before = (first[2][pair[0]][index], second[2][pair[1]][index])
                if before not in found:
                    found[before] = (symbol, *found[pair])
                    longer.append(before)
        layer = longer
    return found


def _rows_of(machine, rights):
    """For each left state and each symbol, the outputs at a list of right states."""
    return [[tuple([row[behind] for behind in rights]) for row in rows] for rows in machine[3]]


def _first_apart(row, other):
    """The first place at which two rows of the same length differ, None if they are equal."""
    if row == other:
        return None
    low = 0
    high = len(row)
    # Long equal beginnings are passed over by halves.
    while high - low > 1:
        middle = (low + high) // 2
        if row[low:middle] == other[low:middle]:
            low = middle
        else:
            high = middle
    return low
