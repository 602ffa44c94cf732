"""Nets `(count, starts, ends, edges)` and the weights of their paths."""

from excerptcheck.searching import around, best_weights, first_read, positive_loop, reached_from, tight_edges


def net_of(graph):
    """The net of a graph."""
    points, starts, ends, edges = graph
    return len(points), starts, ends, tuple([(source, symbol, target) for source, symbol, target, _ in edges])


def useful(net):
    """The ascending tuple of the points that lie on some complete path."""
    count, starts, ends, edges = net
    ahead = reached_from(starts, [(source, target) for source, _, target in edges])
    behind = reached_from(ends, [(target, source) for source, _, target in edges])
    return tuple([point for point in range(count) if point in ahead and point in behind])


def useful_edges(net):
    """The indices of the edges that lie on some complete path."""
    points = {point: True for point in useful(net)}
    return [index for index, (source, _, target) in enumerate(net[3]) if source in points and target in points]


def potentials(net, weights):
    """For each point the greatest weight of a path to an end point; None if there are no potentials."""
    best = best_weights(net, list(range(len(net[3]))), weights)
    return None if best is None else tuple(best)


def defect(net, weights, bound, integers):
    """The first defect of one integer for each point, None if they are valid."""
    _, starts, ends, edges = net
    for point in starts:
        if integers[point] > bound:
            return "start", point
    for point in ends:
        if integers[point] < 0:
            return "end", point
    for index, (source, _, target) in enumerate(edges):
        if integers[source] < weights[index] + integers[target]:
            return "edge", index
    return None


def first_above(net, weights, bound, *, most):
    """The first sequence that is read along a complete path with a weight above a bound, None if there is none."""
    count, starts, ends, _ = net
    ahead = [[0 if point in ends else None for point in range(count)]]
    while not _exceeds(ahead[-1], starts, bound):
        if len(ahead) > most:
            return None
        ahead.append(_best_before(net, weights, ahead[-1]))
    sums = {start: 0 for start in starts}
    found = []
    for best in ahead[-2::-1]:
        symbol = _least_symbol(net, weights, bound, sums, best)
        found.append(symbol)
        sums = _sums_behind(net, weights, sums, symbol)
    return tuple(found)


def _exceeds(best, starts, bound):
    return any([best[start] is not None and best[start] > bound for start in starts])


def _best_before(net, weights, best):
    """The greatest weights of paths to end points that have one edge more than those of `best`."""
    found = [None] * len(best)
    for index, (source, _, target) in enumerate(net[3]):
        if best[target] is not None:
            weight = weights[index] + best[target]
            if found[source] is None or weight > found[source]:
                found[source] = weight
    return found


def _least_symbol(net, weights, bound, sums, best):
    """The least symbol behind which the bound can still be exceeded with what `best` tells for the rest."""
    found = None
    for index, (source, symbol, target) in enumerate(net[3]):
        if source in sums and best[target] is not None and (found is None or symbol < found):
            if sums[source] + weights[index] + best[target] > bound:
                found = symbol
    return found


def _sums_behind(net, weights, sums, symbol):
    """The greatest weights up to each point behind one more symbol."""
    found = {}
    for index, (source, read, target) in enumerate(net[3]):
        if read == symbol and source in sums:
            weight = sums[source] + weights[index]
            if target not in found or weight > found[target]:
                found[target] = weight
    return found


def greatest_weight(net, weights):
    """The greatest weight of a complete path, None if there is no complete path."""
    if not useful(net):
        return None
    kept = useful_edges(net)
    loop = positive_loop(net, kept, weights)
    if loop is not None:
        return ("unbounded", *around(net, kept, loop))
    best = best_weights(net, kept, weights)
    greatest = max([best[start] for start in net[1] if best[start] is not None])
    return "bounded", greatest, _first_with(net, kept, weights, best, greatest)


def _first_with(net, kept, weights, best, greatest):
    """The first sequence that is read along a complete path with the greatest weight."""
    steps = {}
    for index in tight_edges(net, kept, weights, best):
        source, symbol, target = net[3][index]
        steps.setdefault(source, []).append((symbol, target))
    starts = [start for start in net[1] if best[start] == greatest]
    goals = {end: True for end in net[2] if best[end] == 0}
    return first_read(starts, lambda point: steps.get(point, []), lambda end: end in goals)
