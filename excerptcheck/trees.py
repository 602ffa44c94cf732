"""Patterns as trees: their nodes, their parts, their mirrored trees."""


def operands_of(tree):
    """The operands of a node, in their order."""
    if tree[0] in ("empty", "class"):
        return ()
    return tree[1:]


def node_count(tree):
    """The number of nodes of a pattern."""
    # The trees of texts can be deep before they are known to have too many nodes, so nothing calls itself here.
    count = 0
    waiting = [tree]
    while waiting:
        node = waiting.pop()
        waiting.extend(operands_of(node))
        count += 1
    return count


def parts_of(tree):
    """The tuple of the parts of a pattern: those of its operands, then the pattern itself."""
    parts = []
    for operand in operands_of(tree):
        parts.extend(parts_of(operand))
    parts.append(tree)
    return tuple(parts)


def mirrored(tree):
    """The pattern that the symbols in reverse order match if a sequence matches this one."""
    operands = operands_of(tree)
    if not operands:
        return tree
    turned = tuple([mirrored(operand) for operand in operands])
    if tree[0] == "then":
        turned = turned[::-1]
    return (tree[0], *turned)
