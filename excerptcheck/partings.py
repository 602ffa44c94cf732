"""Where two two-way machines part, among the sequences that an acceptor accepts.

What decides at a symbol are the two left states before it, the state of the acceptor there, and the two right
states behind it. So in the first sequence on which the machines part, a first sequence stands before the symbol,
and the first one of those that fit stands behind it.
"""

from excerptcheck.errors import TooLarge
from excerptcheck.exploring import explored, first_sequence, first_steps, sources_of
from excerptcheck.symbols import precedes
from excerptcheck.twoway import outputs_along


def parting_among(acceptor, first, second, *, most=None):
    """The first accepted sequence on which two machines do not give the same, and its first position that shows it.

    The acceptor and the machines read the same symbols. The result is None if there is no such sequence. TooLarge
    is raised if there are more than `most` triples of states before a symbol, or pairs of states behind one.
    """
    triples = explored((0, 0, 0), lambda triple: _longer(acceptor, first, second, triple), most=most)
    pairs = explored((0, 0), lambda pair: list(zip(first[2][pair[0]], second[2][pair[1]])), most=most)
    if triples is None or pairs is None:
        raise TooLarge(None)
    sequence = _first_apart(acceptor, first, second, triples, pairs)
    if sequence is None:
        return None
    outputs = list(zip(outputs_along(first, sequence), outputs_along(second, sequence)))
    position = 0
    while outputs[position][0] == outputs[position][1]:
        position += 1
    return sequence, position


def _longer(acceptor, first, second, triple):
    left, other, state = triple
    return list(zip(first[1][left], second[1][other], acceptor[1][state]))


def _first_apart(acceptor, first, second, triples, pairs):
    """The first accepted sequence on which two machines do not give the same, None if there is none."""
    reads = acceptor[0]
    steps = first_steps(triples[1])
    tails = _tails(acceptor, pairs[1])
    behinds = _by_state(acceptor, tails)
    rights = [[pairs[0][tails[place][1]] for place in places] for places in behinds]
    rows = Rows(first, [[pair[0] for pair in row] for row in rights])
    others = Rows(second, [[pair[1] for pair in row] for row in rights])
    best = None
    for number, (left, other, state) in enumerate(triples[0]):
        head = first_sequence(reads, steps, number)
        if best is not None and len(head) >= len(best):
            break
        for index, symbol in enumerate(reads):
            after = acceptor[1][state][index]
            at = _place_apart(rows.row(left, index, after), others.row(other, index, after))
            if at is not None:
                found = (*head, symbol, *_tail(reads, tails, behinds[after][at]))
                if best is None or precedes(found, best):
                    best = found
    return best


class Rows:
    """What a machine puts out for a symbol, in a row for all that can stand behind it."""

    def __init__(self, machine, rights):
        self.machine = machine
        # For each state of the acceptor the right states of what can stand behind it.
        self.rights = rights
        self.known = {}

    def row(self, left, index, state):
        """The row behind a left state, for the symbol with an index, and before what leads from a state to an end."""
        key = (left, index, state)
        if key not in self.known:
            outputs = self.machine[3][left][index]
            self.known[key] = tuple([outputs[right] for right in self.rights[state]])
        return self.known[key]


def _tails(acceptor, right_rows):
    """What can stand behind a symbol: `(state, right, index, rest)`, in the order of the first such sequences.

    The sequence leads from the state to an accepting one, and has the right state with this number. It consists of
    the symbol with the index and, behind it, the sequence with the place `rest`; None stands for the empty one.
    """
    earlier = sources_of(acceptor[1])
    found = [(state, 0, None, None) for state in acceptor[2]]
    met = {(state, 0): True for state in acceptor[2]}
    begin = 0
    while begin < len(found):
        end = len(found)
        # Those of one length are in order, so the first sequence that fits a new state and right state is met first.
        for index in range(len(acceptor[0])):
            for rest in range(begin, end):
                after, behind = found[rest][:2]
                right = right_rows[behind][index]
                for state in earlier[index][after]:
                    if (state, right) not in met:
                        met[(state, right)] = True
                        found.append((state, right, index, rest))
        begin = end
    return found


def _by_state(acceptor, tails):
    """For each state the places of its tails."""
    found = [[] for _ in acceptor[1]]
    for at, tail in enumerate(tails):
        found[tail[0]].append(at)
    return found


def _tail(reads, tails, at):
    found = []
    while tails[at][2] is not None:
        found.append(reads[tails[at][2]])
        at = tails[at][3]
    return found


def _place_apart(row, other):
    """The first place at which two rows of the same length differ, None if they are equal."""
    if row == other:
        return None
    low = 0
    high = len(row)
    # Long equal beginnings are passed over by halves.
    while high - low > 1:
        middle = (low + high) // 2
        if row[low:middle] == other[low:middle]:
            low = middle
        else:
            high = middle
    return low
