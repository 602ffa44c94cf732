"""Which documents of a kind have excerpts that match a pattern, and which one is the first with a given excerpt."""

from excerptcheck.acceptors import minimal, state_behind
from excerptcheck.cascades import pipeline_machine
from excerptcheck.errors import TooLarge
from excerptcheck.exploring import explored
from excerptcheck.graphs import graph
from excerptcheck.kinds import kind_machine
from excerptcheck.machines import machine
from excerptcheck.searching import first_read
from excerptcheck.symbols import symbols

MOST_LISTS = 200


def allowed(kind, pipeline, tree):
    """The least acceptor of the documents of a kind whose excerpts match a pattern."""
    letters, owners, _ = kind
    acceptor = kind_machine(kind)
    inner = pipeline_machine(letters, owners, pipeline)
    outer = machine(symbols(letters, owners), tree)
    # One class for each right state: what the symbols so far put out depends on what stands behind them.
    start = (0, 0, (0,) * len(inner[2]))
    lists = explored(start, lambda found: _longer_lists(acceptor, inner, outer, found), most=MOST_LISTS)
    if lists is None:
        raise TooLarge(None)
    accepting = [number for number, (state, _, classes) in enumerate(lists[0])
                 if state in acceptor[2] and classes[0] in outer[2]]
    return minimal((acceptor[0], lists[1], tuple(accepting)))


def _longer_lists(acceptor, inner, outer, found):
    """The lists of the documents that one more symbol gives, for each symbol."""
    state, left, classes = found
    _, left_rows, right_rows, outputs = inner
    longer = []
    for index, after in enumerate(acceptor[1][state]):
        # Before the symbol stands what was put out before a sequence that begins with it.
        moved = [state_behind(outer, classes[right_rows[right][index]], output)
                 for right, output in enumerate(outputs[left][index])]
        longer.append((after, left_rows[left][index], tuple(moved)))
    return longer


def first_source(kind, pipeline, sequence):
    """The first document of the kind whose excerpt has exactly these symbols, None if there is none."""
    points, starts, ends, edges = graph(kind, pipeline)
    leaving = [[] for _ in points]
    for source, symbol, target, output in edges:
        leaving[source].append((symbol, target, output))
    goals = {end: True for end in ends}

    def steps_of(state):
        point, done = state
        return [(symbol, (target, done + len(output))) for symbol, target, output in leaving[point]
                if sequence[done:done + len(output)] == output]

    return first_read([(start, 0) for start in starts], steps_of,
                      lambda state: state[0] in goals and state[1] == len(sequence))
