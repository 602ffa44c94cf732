"""Which states of an acceptor the outputs along the paths of a graph lead to."""

from excerptcheck.acceptors import state_behind
from excerptcheck.searching import first_read


def spread(graph, acceptor):
    """For each point the ascending tuple of the states after the outputs of all paths from a start point to it."""
    points, starts, _, _ = graph
    steps_of = _steps(graph, acceptor)
    met = {(start, 0): True for start in starts}
    waiting = list(met)
    while waiting:
        pair = waiting.pop()
        for _, after in steps_of(pair):
            if after not in met:
                met[after] = True
                waiting.append(after)
    listed = [[] for _ in points]
    for point, state in sorted(met):
        listed[point].append(state)
    return tuple([tuple(states) for states in listed])


def spread_defect(graph, acceptor, lists):
    """The first defect of the states that are listed at each point, None if they are valid."""
    _, starts, ends, edges = graph
    for point in starts:
        if 0 not in lists[point]:
            return "start", point
    for point in ends:
        if not all([state in acceptor[2] for state in lists[point]]):
            return "end", point
    for index, (source, _, target, output) in enumerate(edges):
        if not all([state_behind(acceptor, state, output) in lists[target] for state in lists[source]]):
            return "edge", index
    return None


def first_refused(graph, acceptor, *, most):
    """The first sequence along a complete path whose output the acceptor does not accept, None if there is none."""
    _, starts, ends, _ = graph
    good = {state: True for state in acceptor[2]}
    goals = {point: True for point in ends}
    pairs = [(start, 0) for start in starts]
    return first_read(pairs, _steps(graph, acceptor), lambda pair: pair[0] in goals and pair[1] not in good, most=most)


def _steps(graph, acceptor):
    """A function that lists, for a point and a state, the symbols of the edges and the pairs to which they lead."""
    leaving = [[] for _ in graph[0]]
    for edge in graph[3]:
        leaving[edge[0]].append(edge)

    def steps_of(pair):
        return [(symbol, (target, state_behind(acceptor, pair[1], output)))
                for _, symbol, target, output in leaving[pair[0]]]

    return steps_of
