"""Searching along steps: first sequences, short paths, and paths with great weights.

Nets are `(count, starts, ends, edges)`. A search in a net goes along the *kept* edges alone, which are told by
their indices.
"""


def first_read(starts, steps_of, is_goal, *, most=None):
    """The first sequence that is read from a start to a goal, None if there is none with at most `most` symbols.

    `steps_of(state)` lists pairs of a symbol and the state to which a step leads.
    """
    met = {state: True for state in starts}
    # The states with the same first sequence stand together, in the order of these sequences.
    layer = [((), list(starts))]
    while layer:
        longer = []
        # A copy is walked: `layer` is another name of what the loop before extended.
        for sequence, states in list(layer):
            if any([is_goal(state) for state in states]):
                return sequence
            if len(sequence) != most:
                longer.extend(_longer(sequence, states, steps_of, met))
        layer = longer
    return None


def _longer(sequence, states, steps_of, met):
    """The sequences that are longer by one symbol, each with the states that are met first by it."""
    reached = {}
    for state in states:
        for symbol, after in steps_of(state):
            reached.setdefault(symbol, []).append(after)
    found = []
    for symbol in sorted(reached):
        fresh = []
        for state in reached[symbol]:
            if state not in met:
                met[state] = True
                fresh.append(state)
        if fresh:
            found.append(((*sequence, symbol), fresh))
    return found


def reached_from(points, pairs):
    """A dict of the points that are reached from these points along pairs of a source and a target."""
    following = {}
    for source, target in pairs:
        following.setdefault(source, []).append(target)
    met = {point: True for point in points}
    waiting = list(met)
    while waiting:
        source = waiting.pop()
        for point in following.get(source, []):
            if point not in met:
                met[point] = True
                waiting.append(point)
    return met


def short_path(net, kept, sources, goals):
    """A path with the fewest edges from one of the sources to one of the goals, None if there is none."""
    edges = net[3]
    leaving = {}
    for index in kept:
        leaving.setdefault(edges[index][0], []).append(index)
    paths = {point: () for point in sources}
    points = list(paths)
    at = 0
    while at < len(points):
        source = points[at]
        if source in goals:
            return paths[source]
        for index in leaving.get(source, []):
            target = edges[index][2]
            if target not in paths:
                paths[target] = (*paths[source], index)
                points.append(target)
        at += 1
    return None


def around(net, kept, loop):
    """A head from a start point to a loop, the loop, and a tail from it to an end point."""
    _, starts, ends, edges = net
    points = (edges[loop[0]][0],)
    return short_path(net, kept, starts, points), loop, short_path(net, kept, points, ends)


def best_weights(net, kept, weights):
    """For each point the greatest weight of a path to an end point, None if there is no such path.

    The result is None if such weights are arbitrarily great for some point.
    """
    count, _, ends, _ = net
    best = [None] * count
    for end in ends:
        best[end] = 0
    # Without such a point, paths that pass no point twice are the best, so fewer rounds than points change something.
    for _ in range(count + 1):
        if not _improve(net, kept, weights, best, [None] * count):
            return best
    return None


def positive_loop(net, kept, weights):
    """A path from a point to itself with a positive weight that passes no other point twice, None if there is none."""
    best = [0] * net[0]
    onward = [None] * net[0]
    # A loop among the edges by which the weights came about has a positive weight, and one appears if there is any.
    while _improve(net, kept, weights, best, onward):
        loop = _loop_along(net, onward)
        if loop is not None:
            return loop
    return None


def _improve(net, kept, weights, best, onward):
    """Takes each edge that leads to a greater weight; True if there was one."""
    edges = net[3]
    improved = False
    for index in kept:
        source, _, target = edges[index]
        if best[target] is not None:
            weight = weights[index] + best[target]
            if best[source] is None or weight > best[source]:
                best[source] = weight
                onward[source] = index
                improved = True
    return improved


def _loop_along(net, onward):
    """A path from a point to itself, None if there is none; `onward` tells for each point the edge to go on by."""
    edges = net[3]
    # For each point, the point from which it was passed first.
    passed = {}
    for start in range(len(onward)):
        point = start
        while point not in passed and onward[point] is not None:
            passed[point] = start
            point = edges[onward[point]][2]
        if passed.get(point) == start:
            return _walk_around(net, onward, point)
    return None


def _walk_around(net, onward, start):
    found = [onward[start]]
    while net[3][found[-1]][2] != start:
        found.append(onward[net[3][found[-1]][2]])
    return tuple(found)


def tight_edges(net, kept, weights, best):
    """The kept edges that lie on a path with the greatest weight from their source to an end point."""
    found = []
    for index in kept:
        source, _, target = net[3][index]
        if best[target] is not None and best[source] == weights[index] + best[target]:
            found.append(index)
    return found
