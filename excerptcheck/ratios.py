"""The greatest share of the chosen parts in the sizes of the edges of a net."""

from math import gcd

from excerptcheck.nets import useful_edges
from excerptcheck.searching import around, best_weights, first_read, positive_loop, short_path, tight_edges


def greatest_ratio(net, chosen, sizes):
    """The greatest share of a net."""
    kept = useful_edges(net)
    if not any([sizes[index] > 0 for index in kept]):
        return ("none",)
    share = (0, 1)
    better = _path_above(net, kept, _weights(chosen, sizes, share))
    while better is not None:
        share = _share(better, chosen, sizes)
        better = _path_above(net, kept, _weights(chosen, sizes, share))
    weights = _weights(chosen, sizes, share)
    best = best_weights(net, kept, weights)
    tight = tight_edges(net, kept, weights, best)
    sequence = _first_with_share(net, tight, best, sizes)
    if sequence is not None:
        return ("met", *share, sequence)
    return ("neared", *share, *around(net, kept, _loop_with_share(net, tight, sizes)))


def _weights(chosen, sizes, share):
    """Weights by which exactly those paths have a positive weight whose share is greater."""
    return [share[1] * part - share[0] * size for part, size in zip(chosen, sizes)]


def _share(path, chosen, sizes):
    """The share of a path, in lowest terms."""
    part = sum([chosen[index] for index in path])
    size = sum([sizes[index] for index in path])
    divisor = gcd(part, size)
    return part // divisor, size // divisor


def _path_above(net, kept, weights):
    """A complete path, or a loop of useful points, with a positive weight; None if there is none."""
    loop = positive_loop(net, kept, weights)
    if loop is not None:
        return loop
    best = best_weights(net, kept, weights)
    starts = [start for start in net[1] if best[start] is not None]
    greatest = max([best[start] for start in starts])
    if greatest <= 0:
        return None
    tight = tight_edges(net, kept, weights, best)
    sources = [start for start in starts if best[start] == greatest]
    return short_path(net, tight, sources, [end for end in net[2] if best[end] == 0])


def _first_with_share(net, tight, best, sizes):
    """The first sequence that is read along a complete path with a size and the weight 0, None if there is none."""
    steps = {}
    for index in tight:
        source, symbol, target = net[3][index]
        for sized in (False, True):
            after = (target, sized or sizes[index] > 0)
            steps.setdefault((source, sized), []).append((symbol, after))
    starts = [(start, False) for start in net[1] if best[start] == 0]
    goals = {(end, True): True for end in net[2] if best[end] == 0}
    return first_read(starts, lambda state: steps.get(state, []), lambda end: end in goals)


def _loop_with_share(net, tight, sizes):
    """A path from a point to itself with a size and the weight 0, None if there is none."""
    for index in tight:
        source, _, target = net[3][index]
        if sizes[index] > 0:
            back = short_path(net, tight, (target,), (source,))
            if back is not None:
                return (index, *back)
    return None
