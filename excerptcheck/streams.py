"""What is certain of an excerpt while the document arrives."""

from excerptcheck.acceptors import state_behind
from excerptcheck.errors import Finished, NotOfKind
from excerptcheck.graphs import rights_behind
from excerptcheck.twoway import outputs_between, paired, run


def certain(acceptor, machine, sequence):
    """The pairs that are certain after a sequence, None if it has no completion."""
    if not all([symbol in acceptor[0] for symbol in sequence]):
        return None
    rights = rights_behind(acceptor, machine)[state_behind(acceptor, 0, sequence)]
    return _certain_before(machine, sequence, rights) if rights else None


def _certain_before(machine, sequence, rights):
    """What a machine puts out for a sequence before each of these right states, as far as all of it is the same."""
    rows = [paired(outputs_between(machine, 0, sequence, right)) for right in rights]
    common = rows[0]
    for row in rows:
        common = _common_beginning(common, row)
    return common


def _common_beginning(first, second):
    size = 0
    while size < len(first) and size < len(second) and first[size] == second[size]:
        size += 1
    return first[:size]


class Stream:
    """Is given the symbols of a sequence, and hands out what is certain as early as possible."""

    def __init__(self, acceptor, machine):
        self._acceptor = acceptor
        self._machine = machine
        # For each state of the acceptor the right states of all that may follow.
        self._rights = rights_behind(acceptor, machine)
        self._state = 0
        self._finished = False
        self._given = ()
        self._told = ()
        self._possible = tuple(self._rights[0])

    def feed(self, symbol):
        """Gives the next symbol to the stream, and returns the pairs that are handed out then."""
        if self._finished:
            raise Finished("the stream is finished already")
        reads, rows, _ = self._acceptor
        if symbol not in reads:
            raise NotOfKind("the symbol is not read")
        state = rows[self._state][reads.index(symbol)]
        if not self._rights[state]:
            raise NotOfKind("the sequence has no completion")
        self._state = state
        self._given = (*self._given, symbol)
        self._possible = tuple(self._rights[state])
        return self._hand_out(_certain_before(self._machine, self._given, self._possible))

    def finish(self):
        """Finishes the stream, and returns the pairs that are handed out then."""
        if self._finished:
            raise Finished("the stream is finished already")
        if self._state not in self._acceptor[2]:
            raise NotOfKind("the sequence is not accepted")
        self._finished = True
        self._possible = (0,)
        return self._hand_out(run(self._machine, self._given))

    def _hand_out(self, pairs):
        """The pairs that were not handed out before; what was handed out is a beginning of what is certain later."""
        fresh = pairs[len(self._told):]
        self._told = pairs
        return fresh

    @property
    def given(self):
        """The sequence of the symbols given so far."""
        return self._given

    @property
    def told(self):
        """All pairs that were handed out so far."""
        return self._told

    @property
    def possible(self):
        """The right states of all completions of the symbols given so far."""
        return self._possible

    def __len__(self):
        return len(self._given)

    def __iter__(self):
        return iter(self._told)
