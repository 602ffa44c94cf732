"""Nets and their paths, word by word as the document says them, and random ones to compare with.

Nothing here uses the program. Paths are tuples of indices of edges.
"""

from fractions import Fraction

SYMBOLS = ("@a", "Aa", "Ab", "Ba")


def read_along(net, path):
    return tuple(net[3][index][1] for index in path)


def total(path, numbers):
    return sum(numbers[index] for index in path)


def is_path(net, path, source, target):
    """Whether each edge begins at the point to which the one before leads, from the source to the target."""
    point = source
    for index in path:
        if net[3][index][0] != point:
            return False
        point = net[3][index][2]
    return point == target


def walks(net, sources, most):
    """All paths from one of the sources with at most `most` edges, as pairs of a path and its last point."""
    layer = [((), source) for source in sources]
    found = list(layer)
    for _ in range(most):
        layer = [(path + (index,), edge[2]) for path, point in layer for index, edge in enumerate(net[3])
                 if edge[0] == point]
        found += layer
    return found


def complete_walks(net, most):
    return [path for path, point in walks(net, net[1], most) if point in net[2]]


def simple_paths(net, source):
    """All paths from a point that pass no point twice, as pairs of a path and its last point."""
    found = []

    def go_on(path, point, passed):
        found.append((path, point))
        for index, (here, _, target) in enumerate(net[3]):
            if here == point and target not in passed:
                go_on(path + (index,), target, passed | {target})

    go_on((), source, {source})
    return found


def simple_loops(net):
    """All paths of at least one edge from a point to itself that pass no other point twice."""
    return [path + (index,) for source in range(net[0]) for path, point in simple_paths(net, source)
            for index, edge in enumerate(net[3]) if edge[0] == point and edge[2] == source]


def reaches_end(net, point):
    return any(last in net[2] for _, last in simple_paths(net, point))


def useful_told(net):
    ahead = {point for start in net[1] for _, point in simple_paths(net, start)}
    return tuple(point for point in range(net[0]) if point in ahead and reaches_end(net, point))


def potentials_told(net, weights):
    if any(total(loop, weights) > 0 and reaches_end(net, net[3][loop[0]][0]) for loop in simple_loops(net)):
        return None
    found = []
    for point in range(net[0]):
        sums = [total(path, weights) for path, last in simple_paths(net, point) if last in net[2]]
        found.append(max(sums) if sums else None)
    return tuple(found)


def defect_told(net, weights, bound, integers):
    for point in range(net[0]):
        if point in net[1] and not integers[point] <= bound:
            return ("start", point)
    for point in range(net[0]):
        if point in net[2] and not integers[point] >= 0:
            return ("end", point)
    for index, edge in enumerate(net[3]):
        if not integers[edge[0]] >= weights[index] + integers[edge[2]]:
            return ("edge", index)
    return None


def first_of(sequences):
    """The first of some sequences, None if there are none."""
    return min(sequences, key=lambda sequence: (len(sequence), sequence), default=None)


def first_above_told(net, weights, bound, most):
    return first_of([read_along(net, path) for path in complete_walks(net, most) if total(path, weights) > bound])


def useful_loops(net):
    points = useful_told(net)
    return [loop for loop in simple_loops(net) if net[3][loop[0]][0] in points]


def simple_complete_paths(net):
    return [path for start in net[1] for path, last in simple_paths(net, start) if last in net[2]]


def greatest_told(net, weights):
    """The greatest weight, only "unbounded" if it is so."""
    if any(total(loop, weights) > 0 for loop in useful_loops(net)):
        return "unbounded"
    paths = simple_complete_paths(net)
    if not paths:
        return None
    greatest = max(total(path, weights) for path in paths)
    return ("bounded", greatest, first_of([read_along(net, path) for path in paths
                                           if total(path, weights) == greatest]))


def ratio_told(net, chosen, sizes):
    """The greatest share, of a neared one only the share."""
    shares = [Fraction(total(path, chosen), total(path, sizes))
              for path in simple_complete_paths(net) + useful_loops(net) if total(path, sizes) > 0]
    if not shares:
        return ("none",)
    share = max(shares)
    met = [read_along(net, path) for path in complete_walks(net, 2 * net[0])
           if total(path, sizes) > 0 and Fraction(total(path, chosen), total(path, sizes)) == share]
    if met:
        return ("met", share.numerator, share.denominator, first_of(met))
    return ("neared", share.numerator, share.denominator)


def random_net(dice, points, edges, symbols=SYMBOLS, share=0.4):
    """A net with so many points and at most so many edges; this share of the points is at the start, or at the end."""
    count = points
    found = set()
    if count:
        found = {(dice.randrange(count), dice.choice(symbols), dice.randrange(count)) for _ in range(edges)}
    starts = tuple(point for point in range(count) if dice.random() < share)
    ends = tuple(point for point in range(count) if dice.random() < share)
    return (count, starts, ends, tuple(sorted(found)))


def line(count, symbol="Aa"):
    """The net that has one complete path through all its points."""
    return (count, (0,), (count - 1,), tuple((point, symbol, point + 1) for point in range(count - 1)))
