"""Deciding whether all excerpts of a kind comply with a policy, and checking certificates of it.

Under "matches" the machine of the pattern reads the excerpts; under a share or a sum there is None in its place.
"""

from excerptcheck.graphs import graph
from excerptcheck.machines import machine
from excerptcheck.nets import defect, first_above, net_of, potentials
from excerptcheck.policies import bound_of, weight
from excerptcheck.spreads import first_refused, spread, spread_defect
from excerptcheck.symbols import symbols

MOST_SYMBOLS = 60


def decide(kind, pipeline, policy):
    """Whether all excerpts comply, with the canonical certificate or else the first document that does not."""
    made = graph(kind, pipeline)
    return decided(made, policy, policy_machine(kind[0], kind[1], policy))


def check_certificate(kind, pipeline, policy, certificate):
    """None if a certificate is valid, otherwise its first defect."""
    made = graph(kind, pipeline)
    acceptor = policy_machine(kind[0], kind[1], policy)
    if len(certificate) != len(made[0]):
        return "count", len(made[0])
    if acceptor is None:
        return defect(net_of(made), weights_under(policy, made), bound_of(policy), certificate)
    for point, listed in enumerate(certificate):
        if not all([0 <= state < len(acceptor[1]) for state in listed]):
            return "class", point
    return spread_defect(made, acceptor, certificate)


def policy_machine(letters, owners, policy):
    """The machine of the pattern of a policy over the symbols of an alphabet, None for a share or a sum."""
    if policy[0] != "matches":
        return None
    return machine(symbols(letters, owners), policy[1])


def weights_under(policy, made):
    """The weights of the outputs of the edges of a graph under a share or a sum."""
    return tuple([weight(policy, edge[3]) for edge in made[3]])


def decided(made, policy, acceptor):
    """What `decide` tells, for a graph and with the machine of the policy."""
    if acceptor is None:
        certificate = _weighed(made, policy)
    else:
        certificate = _listed(made, acceptor)
    if certificate is not None:
        return True, certificate, None
    return False, None, _first_wrong(made, policy, acceptor)


def _weighed(made, policy):
    """The potentials, None if some excerpt does not comply with a share or a sum."""
    found = potentials(net_of(made), weights_under(policy, made))
    # Every point leads to an end point, so each of the potentials is an integer.
    if found is None or any([found[start] > bound_of(policy) for start in made[1]]):
        return None
    return found


def _listed(made, acceptor):
    """The spread, None if some excerpt does not match the pattern."""
    found = spread(made, acceptor)
    if not all([state in acceptor[2] for end in made[2] for state in found[end]]):
        return None
    return found


def _first_wrong(made, policy, acceptor):
    """The first document whose excerpt does not comply, None if it has too many symbols."""
    if acceptor is None:
        weights = weights_under(policy, made)
        return first_above(net_of(made), weights, bound_of(policy), most=MOST_SYMBOLS)
    return first_refused(made, acceptor, most=MOST_SYMBOLS)
