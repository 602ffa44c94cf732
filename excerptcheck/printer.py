"""Patterns and pipelines as texts with as few parentheses as possible."""

from excerptcheck.trees import operands_of

LEVELS = {"or": 0, "and": 1, "then": 2, "not": 3, "star": 4, "class": 5, "empty": 5}
SIGNS = {"or": "|", "and": "&", "then": ""}
# The least level of each operand that needs no parentheses.
REQUIRED = {"or": (1, 0), "and": (2, 1), "then": (3, 2), "not": (3,), "star": (4,)}


def show_pattern(tree):
    """The shown text of a pattern."""
    name = tree[0]
    if name == "empty":
        return "()"
    if name == "class":
        return _shown_class(tree)
    shown = [_placed(operand, level) for operand, level in zip(operands_of(tree), REQUIRED[name])]
    if name == "not":
        return "!" + shown[0]
    if name == "star":
        return shown[0] + "*"
    return SIGNS[name].join(shown)


def _placed(operand, level):
    """The shown text of an operand at a place that requires a level."""
    text = show_pattern(operand)
    return f"({text})" if LEVELS[operand[0]] < level else text


def _shown_class(tree):
    _, negated, holders, letters = tree
    listed = holders + letters
    if negated:
        return f"[^{listed}]"
    if listed == "":
        return "."
    return listed if len(listed) == 1 else f"[{listed}]"


def show_pipeline(pipeline):
    """The pipeline with the shown texts in place of its patterns and targets."""
    return tuple([tuple([_shown_rule(rule) for rule in stage]) for stage in pipeline])


def _shown_rule(rule):
    before, target, after, output = rule
    return show_pattern(before), show_pattern(target), show_pattern(after), output
