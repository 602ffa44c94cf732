"""The greatest share of some holders in the excerpts of a kind, the greatest sum of prices, and all holders."""

from excerptcheck.deciding import weights_under
from excerptcheck.graphs import graph
from excerptcheck.nets import greatest_weight, net_of
from excerptcheck.ratios import greatest_ratio


def greatest_share(kind, pipeline, holders):
    """The greatest share of some holders in the excerpts of the documents of a kind."""
    made = graph(kind, pipeline)
    outputs = [edge[3] for edge in made[3]]
    sizes = tuple([len(output) for output in outputs])
    chosen = tuple([len([symbol for symbol in output if symbol[0] in holders]) for output in outputs])
    found = greatest_ratio(net_of(made), chosen, sizes)
    return _read_along(made, found) if found[0] == "neared" else found


def greatest_sum(kind, pipeline, prices):
    """The greatest sum of prices in the excerpts of the documents of a kind."""
    made = graph(kind, pipeline)
    # The bound of the policy has no part in the weights.
    found = greatest_weight(net_of(made), weights_under(("sum", prices, 0), made))
    return _read_along(made, found) if found is not None and found[0] == "unbounded" else found


def holders_of(kind, pipeline):
    """The ascending tuple of the holders of the symbols of the excerpts of the documents of a kind."""
    # Every edge of a graph lies on a complete path.
    made = graph(kind, pipeline)
    return tuple(sorted(set([symbol[0] for edge in made[3] for symbol in edge[3]])))


def _read_along(made, found):
    """The sequences that are read along the three paths at the end of a result, in their place."""
    paths = found[-3:]
    return (*found[:-3], *[tuple([made[3][index][1] for index in path]) for path in paths])
