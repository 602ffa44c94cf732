"""Rules, stages and pipelines: what they put out for a sequence."""

from excerptcheck.matching import beginnings_that_match, belongs, ends_that_match
from excerptcheck.symbols import EDITOR, symbols
from excerptcheck.trees import parts_of


def stage_output(stage, sequence):
    """The pairs of a symbol that the stage puts out and the position for which it is put out."""
    return _put_out(stage, sequence, _first_rules(stage, sequence))


def excerpt(pipeline, document):
    """The pairs of a symbol of the excerpt and its origin, a position in the document."""
    return _passed(pipeline, document)[0]


def trace(pipeline, document):
    """For each stage and each symbol that it reads, the number of the first rule that applies, None if none does."""
    return _passed(pipeline, document)[1]


def blocks(letters, owners, pipeline):
    """The blocks of the symbols of an alphabet that no class of the pipeline tells apart."""
    classes = [tree for stage in pipeline for rule in stage for tree in _classes_of(rule)]
    found = {}
    for symbol in symbols(letters, owners):
        signs = tuple([belongs(symbol, tree) for tree in classes])
        found.setdefault(signs, []).append(symbol)
    return tuple([tuple(block) for block in found.values()])


def rule_output(rule, symbol):
    """What a rule puts out for a symbol to which it applies."""
    return tuple([symbol if character == "$" else EDITOR + character for character in rule[3]])


def _passed(pipeline, document):
    """What the last stage puts out, and the rules that applied in each stage."""
    pairs = tuple([(symbol, place) for place, symbol in enumerate(document)])
    rules = []
    for stage in pipeline:
        sequence = tuple([symbol for symbol, _ in pairs])
        applied = _first_rules(stage, sequence)
        put_out = _put_out(stage, sequence, applied)
        # The position in what this stage reads leads to the origin in the document.
        pairs = tuple([(symbol, pairs[place][1]) for symbol, place in put_out])
        rules.append(applied)
    return pairs, tuple(rules)


def _put_out(stage, sequence, rules):
    found = []
    for place, number in enumerate(rules):
        if number is not None:
            found.extend([(symbol, place) for symbol in rule_output(stage[number], sequence[place])])
    return tuple(found)


def _first_rules(stage, sequence):
    """For each symbol the number of the first rule that applies to it, None if no rule applies."""
    found = [None] * len(sequence)
    for number, rule in enumerate(stage):
        for place, applies in enumerate(_places_of(rule, sequence)):
            if applies and found[place] is None:
                found[place] = number
    return tuple(found)


def _places_of(rule, sequence):
    """For each symbol whether a rule applies to it."""
    before, target, after, _ = rule
    heads = beginnings_that_match(before, sequence)
    tails = ends_that_match(after, sequence)
    return [heads[place] and belongs(symbol, target) and tails[place + 1] for place, symbol in enumerate(sequence)]


def _classes_of(rule):
    """The "class" nodes that occur in a rule."""
    before, target, after, _ = rule
    parts = (*parts_of(before), target, *parts_of(after))
    return [tree for tree in parts if tree[0] == "class"]
