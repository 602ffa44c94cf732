"""Listing, counting and numbering the documents of a kind.

A *table* tells for each number of symbols and for each class how many sequences of so many symbols lead from
the class to an accepting one.
"""

from excerptcheck.acceptors import accepts, first_accepted, states_along
from excerptcheck.errors import NoDocument, NotOfKind
from excerptcheck.kinds import kind_machine


def documents(kind, *, most):
    """A generator: the documents of the kind with at most `most` symbols, in order."""
    acceptor = kind_machine(kind)
    table = _table(acceptor, most)
    found = _first_of_lengths(acceptor, table, 0, most)
    while found is not None:
        yield found
        found = _following(acceptor, table, found, most)


def first_document(kind):
    """The first document of the kind, None if there is none."""
    return first_accepted(kind_machine(kind))


def next_document(kind, document, *, most):
    """The first document of the kind behind `document` with at most `most` symbols, None if there is none."""
    acceptor = kind_machine(kind)
    table = _table(acceptor, most)
    if document is None:
        return _first_of_lengths(acceptor, table, 0, most)
    return _following(acceptor, table, document, most)


def many(kind, length):
    """How many documents of the kind have exactly so many symbols."""
    return _table(kind_machine(kind), length)[length][0]


def document_at(kind, length, index):
    """The document of the kind with this index among those of its length."""
    acceptor = kind_machine(kind)
    table = _table(acceptor, length)
    if index >= table[length][0]:
        raise NoDocument(table[length][0])
    return _numbered(acceptor, table, 0, length, index)


def index_of(kind, document):
    """The index of a document among those of its length."""
    acceptor = kind_machine(kind)
    reads, rows, _ = acceptor
    if not all([symbol in reads for symbol in document]) or not accepts(acceptor, document):
        raise NotOfKind("the sequence is not a document of the kind")
    table = _table(acceptor, len(document))
    states = states_along(acceptor, document)
    found = 0
    for place, symbol in enumerate(document):
        lesser = rows[states[place]][:reads.index(symbol)]
        found += sum([table[len(document) - place - 1][state] for state in lesser])
    return found


def _table(acceptor, most):
    _, rows, accepting = acceptor
    table = [[1 if state in accepting else 0 for state in range(len(rows))]]
    for _ in range(most):
        shorter = table[-1]
        table.append([sum([shorter[after] for after in row]) for row in rows])
    return table


def _numbered(acceptor, table, state, length, index):
    """The sequence with this index among those of this length that lead from a state to an accepting one."""
    reads, rows, _ = acceptor
    found = []
    for left in range(length - 1, -1, -1):
        place = 0
        while index >= table[left][rows[state][place]]:
            index -= table[left][rows[state][place]]
            place += 1
        found.append(reads[place])
        state = rows[state][place]
    return tuple(found)


def _first_of_lengths(acceptor, table, fewest, most):
    """The first document with at least `fewest` and at most `most` symbols, None if there is none."""
    for length in range(fewest, most + 1):
        if table[length][0] > 0:
            return _numbered(acceptor, table, 0, length, 0)
    return None


def _following(acceptor, table, document, most):
    """The first document behind a sequence with at most `most` symbols, None if there is none."""
    if len(document) <= most:
        found = _following_of_length(acceptor, table, document)
        if found is not None:
            return found
    return _first_of_lengths(acceptor, table, len(document) + 1, most)


def _following_of_length(acceptor, table, document):
    """The first document behind a sequence with as many symbols, None if there is none."""
    reads, rows, _ = acceptor
    states = states_along(acceptor, document)
    # The longer the beginning is that both share, the earlier the document stands.
    for place in range(len(document) - 1, -1, -1):
        left = len(document) - place - 1
        for index in range(reads.index(document[place]) + 1, len(reads)):
            after = rows[states[place]][index]
            if table[left][after] > 0:
                return (*document[:place], reads[index], *_numbered(acceptor, table, after, left, 0))
    return None
