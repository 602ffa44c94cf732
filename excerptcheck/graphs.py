"""Graphs of an acceptor and a two-way machine: `(points, starts, ends, edges)`."""

from excerptcheck.cascades import pipeline_machine
from excerptcheck.errors import TooLarge
from excerptcheck.exploring import explored, sources_of
from excerptcheck.kinds import kind_machine

MOST_POINTS = 200
MOST_EDGES = 2000


def graph_of(acceptor, machine):
    """The graph of an acceptor and a two-way machine that read the same symbols."""
    befores = explored((0, 0), lambda pair: list(zip(machine[1][pair[0]], acceptor[1][pair[1]])))[0]
    behinds = rights_behind(acceptor, machine)
    if sum([len(behinds[state]) for _, state in befores]) > MOST_POINTS:
        raise TooLarge(None)
    points = sorted([(left, state, right) for left, state in befores for right in behinds[state]])
    edges = _edges(acceptor, machine, points)
    if len(edges) > MOST_EDGES:
        raise TooLarge(None)
    starts = [number for number, point in enumerate(points) if point[0] == 0 and point[1] == 0]
    ends = [number for number, point in enumerate(points) if point[2] == 0 and point[1] in acceptor[2]]
    return tuple(points), tuple(starts), tuple(ends), tuple(sorted(edges))


def graph(kind, pipeline):
    """The graph of a kind and a pipeline over its alphabet."""
    acceptor = kind_machine(kind)
    return graph_of(acceptor, pipeline_machine(kind[0], kind[1], pipeline))


def edges_along(graph, sequence):
    """The indices of the edges of the complete path that reads a sequence, None if there is none."""
    _, starts, ends, edges = graph
    reading = {}
    for index, edge in enumerate(edges):
        reading.setdefault(edge[1], []).append(index)
    # From the end on, only points from which the rest is read to an end point are kept.
    onward = [{end: None for end in ends}]
    for symbol in reversed(sequence):
        kept = {}
        for index in reading.get(symbol, []):
            if edges[index][2] in onward[-1]:
                kept[edges[index][0]] = index
        onward.append(kept)
    begun = [start for start in starts if start in onward[-1]]
    if not begun:
        return None
    return _path(edges, begun[0], onward[:0:-1])


def lengths(graph, *, most):
    """For each number of edges up to `most`, how many complete paths have an output of how many symbols."""
    points, starts, ends, edges = graph
    counts = [{0: 1} if point in starts else {} for point in range(len(points))]
    found = [_in_all(counts, ends)]
    for _ in range(most):
        counts = _counts_behind(edges, counts)
        found.append(_in_all(counts, ends))
    return tuple(found)


def rights_behind(acceptor, machine):
    """For each state, the ascending list of the right states of the sequences that lead from it to an accepting one."""
    _, rows, accepting = acceptor
    sources = sources_of(rows)
    met = {(state, 0): True for state in accepting}
    waiting = list(met)
    while waiting:
        state, behind = waiting.pop()
        for index, before in enumerate(machine[2][behind]):
            for earlier in sources[index][state]:
                if (earlier, before) not in met:
                    met[(earlier, before)] = True
                    waiting.append((earlier, before))
    found = [[] for _ in rows]
    for state, behind in sorted(met):
        found[state].append(behind)
    return found


def _edges(acceptor, machine, points):
    """All edges between the points."""
    numbers = {point: number for number, point in enumerate(points)}
    reads, left_rows, right_rows, outputs = machine
    behinds = {}
    for _, state, right in points:
        behinds.setdefault(state, {})[right] = True
    found = []
    for left, state in sorted(set([(point[0], point[1]) for point in points])):
        for index, symbol in enumerate(reads):
            before, after = left_rows[left][index], acceptor[1][state][index]
            # Whatever leads on from here, leads on from the source with the symbol put before it.
            for right in behinds.get(after, {}):
                source = numbers[(left, state, right_rows[right][index])]
                found.append((source, symbol, numbers[(before, after, right)], outputs[left][index][right]))
    return found


def _path(edges, point, onward):
    """The edges from a point on, as each step tells for each point by which edge it goes on."""
    found = []
    for step in onward:
        found.append(step[point])
        point = edges[step[point]][2]
    return tuple(found)


def _counts_behind(edges, counts):
    """For each point, how many paths that are longer by one edge have an output of how many symbols."""
    found = [{} for _ in counts]
    for source, _, target, output in edges:
        longer = found[target]
        for size, number in counts[source].items():
            longer[size + len(output)] = longer.get(size + len(output), 0) + number
    return found


def _in_all(counts, ends):
    """The ascending pairs of a number of symbols and how many paths to end points have it."""
    found = {}
    for end in ends:
        for size, number in counts[end].items():
            found[size] = found.get(size, 0) + number
    return tuple(sorted(found.items()))
