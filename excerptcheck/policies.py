"""Policies: which excerpts comply with them, and the weights of outputs."""

from excerptcheck.matching import matches


def complies(policy, sequence):
    """True if an excerpt with these symbols complies with a policy."""
    if policy[0] == "matches":
        return matches(policy[1], sequence)
    return weight(policy, sequence) <= bound_of(policy)


def bound_of(policy):
    """The bound that no weight of an excerpt exceeds that complies with a share or a sum."""
    return 0 if policy[0] == "share" else policy[2]


def weight(policy, output):
    """The weight of an output under a share or a sum."""
    if policy[0] == "share":
        _, holders, part, whole = policy
        return sum([whole - part if symbol[0] in holders else -part for symbol in output])
    prices = dict(policy[1])
    return sum([prices.get(symbol[0], 0) for symbol in output])
