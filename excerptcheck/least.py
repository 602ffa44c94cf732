"""Least forms of two-way machines, and where two machines part."""

from excerptcheck.exploring import explored
from excerptcheck.grouping import joined
from excerptcheck.partings import parting_among


def least_form(machine):
    """The least form of a two-way machine."""
    reads, left, right, outputs = machine
    lefts, near_left = explored(0, lambda state: left[state])
    rights, near_right = explored(0, lambda state: right[state])
    # Outputs at states that no sequence has tell nothing, so they are left out before states are compared.
    table = [[[outputs[before][index][behind] for behind in rights] for index in range(len(reads))] for before in lefts]
    kept_left, least_left = joined(near_left, _left_marks(table))
    kept_right, least_right = joined(near_right, _right_marks(table, len(rights)))
    least = [columns_at(table[before], kept_right) for before in kept_left]
    return reads, least_left, least_right, tuple(least)


def _left_marks(table):
    return [tuple([tuple(row) for row in rows]) for rows in table]


def _right_marks(table, many):
    return [tuple([row[behind] for rows in table for row in rows]) for behind in range(many)]


def columns_at(rows, places):
    """For each row what stands in it at these places."""
    return tuple([tuple([row[at] for at in places]) for row in rows])


def restricted(machine, reads):
    """The least form of a machine for sequences of the symbols of `reads` alone."""
    places = [machine[0].index(symbol) for symbol in reads]
    left = columns_at(machine[1], places)
    right = columns_at(machine[2], places)
    outputs = columns_at(machine[3], places)
    return least_form((reads, left, right, outputs))


def parting_sequence(first, second):
    """The first sequence on which two machines do not give the same, and its first position that shows it."""
    everything = (first[0], ((0,) * len(first[0]),), (0,))
    return parting_among(everything, first, second)
