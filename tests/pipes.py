"""Kinds and pipelines for tests: their documents and excerpts word by word, and random ones.

The meanings use the slow definitions of samples and oracles alone. Only the choice of random pipelines asks the
program, which of them have a graph.
"""

from excerptcheck.errors import TooComplex, TooLarge
from excerptcheck.graphs import graph
from oracles import excerpt_told
from samples import (ALL, ANY, EMPTY, both, but, dice_for, either, fits, no, of, random_pipeline, random_tree, sequences,
                     star, then)

A, B, EDITOR = of("A"), of("B"), of("@")
SOME = then(ANY, ALL)
NEVER = but()
COPYING = (((ALL, ANY, ALL, "$"),),)
DROPPING = (((ALL, ANY, ALL, ""),),)
THREES, FOURS, FIVES, SEVENS, EIGHTS = [star(then(*[ANY] * many)) for many in (3, 4, 5, 7, 8)]
TWELVES = both(THREES, FOURS)
# The fourth symbol from the end decides: 16 classes, too complex.
FOURTH = then(ALL, A, ANY, ANY, ANY)
# More than 40 left lists.
LARGE = tuple((tree, ANY, ALL, "$") for tree in (FIVES, EIGHTS, EMPTY))


def rule(before=ALL, target=ANY, after=ALL, output="$"):
    return (before, target, after, output)


def symbols_told(kind):
    """The symbols of the owners of the alphabet of a kind."""
    return tuple(owner + letter for owner in kind[1] for letter in kind[0])


def documents_told(kind, most):
    return [found for found in sequences(symbols_told(kind), most) if fits(kind[2], found)]


def excerpts_told(kind, pipeline, most):
    """The documents of the kind with at most `most` symbols, in order, each with the symbols of its excerpt."""
    return [(document, symbols_of(excerpt_told(pipeline, document))) for document in documents_told(kind, most)]


def symbols_of(pairs):
    return tuple(symbol for symbol, _ in pairs)


def complies_told(policy, sequence):
    """Whether an excerpt complies with a policy, word by word."""
    if policy[0] == "matches":
        return fits(policy[1], sequence)
    if policy[0] == "share":
        _, holders, p, q = policy
        return q * len([symbol for symbol in sequence if symbol[0] in holders]) <= p * len(sequence)
    _, prices, bound = policy
    return sum(price for symbol in sequence for holder, price in prices if symbol[0] == holder) <= bound


def random_policy(dice, holders="@ABZ", nodes=6):
    form = dice.choice(["matches", "share", "sum"])
    if form == "matches":
        return (form, random_tree(dice, dice.randint(1, nodes)))
    named = "".join(holder for holder in holders if dice.random() < 0.4) or dice.choice(holders)
    if form == "share":
        return (form, named, dice.choice([0, 0, 1, 1, 2, 3, 1000]), dice.choice([1, 2, 3, 4, 1000]))
    prices = tuple((holder, dice.choice([-3, -1, 0, 1, 2])) for holder in named)
    return (form, prices, dice.choice([-2, -1, 0, 0, 1, 2, 5]))


def random_pairs(name, times, letters="ab", owners="AB", nodes=6):
    """Random kinds and pipelines over one alphabet that have a graph."""
    dice = dice_for(name)
    done = 0
    while done < times:
        kind = (letters, owners, random_kind_pattern(dice, nodes, owners, letters))
        pipeline = random_pipeline(dice, 4, "@" + owners, letters)
        pipeline = tuple(tuple((before, target, after, "".join(sign for sign in output if sign in "$" + letters))
                               for before, target, after, output in stage) for stage in pipeline)
        try:
            graph(kind, pipeline)
        except (TooComplex, TooLarge):
            continue
        done += 1
        yield kind, pipeline


def random_kind_pattern(dice, nodes, owners, letters):
    """Often a kind with many documents, as a random pattern alone seldom has long ones."""
    tree = random_tree(dice, dice.randint(1, nodes), owners, letters)
    return dice.choice([tree, ALL, star(tree), either(tree, then(ALL, tree)), no(tree)])
