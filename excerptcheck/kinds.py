"""Kinds of documents: `(letters, owners, pattern)`."""

from excerptcheck.machines import machine
from excerptcheck.matching import matches
from excerptcheck.symbols import owner_symbols


def kind_machine(kind):
    """The machine of the pattern of a kind over the owner symbols."""
    letters, owners, pattern = kind
    return machine(owner_symbols(letters, owners), pattern)


def of_kind(kind, sequence):
    """True if a sequence is a document of the kind."""
    letters, owners, pattern = kind
    reads = owner_symbols(letters, owners)
    # The pattern itself is asked, not its machine: a pattern that is too complex for a machine has documents, too.
    return all([symbol in reads for symbol in sequence]) and matches(pattern, sequence)
