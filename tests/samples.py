"""What several tests need: short names for trees, lists of sequences, and meanings taken word by word.

The meanings are written as the document words them, slowly and without any cleverness, so that the program
can be compared with them.
"""

import itertools
import random

EVERY_HOLDER = "@ABCDEFGHIJKLMNOPQRSTUVWXYZ"
EVERY_LETTER = "abcdefghijklmnopqrstuvwxyz"
EVERY_SYMBOL = tuple(holder + letter for holder in EVERY_HOLDER for letter in EVERY_LETTER)

EMPTY = ("empty",)
ANY = ("class", False, "", "")
NONE = ("class", True, "", "")


def of(holders="", letters=""):
    """The class node that lists these holders and letters."""
    return ("class", False, holders, letters)


def but(holders="", letters=""):
    """The class node of all other symbols."""
    return ("class", True, holders, letters)


def either(*trees):
    return _folded("or", trees)


def both(*trees):
    return _folded("and", trees)


def then(*trees):
    return _folded("then", trees)


def star(tree):
    return ("star", tree)


def no(tree):
    return ("not", tree)


def _folded(name, trees):
    if len(trees) == 1:
        return trees[0]
    return (name, trees[0], _folded(name, trees[1:]))


ALL = star(ANY)
# The values of [3] in the document.
EVERYTHING = ("a", "AB", ALL)
PIPELINE = (((ALL, of("A"), then(of("B"), ALL), "$"), (ALL, of("B"), ALL, "$")),)


def sequences(reads, most):
    """All sequences of symbols of `reads` with at most `most` symbols, in order."""
    return [found for many in range(most + 1) for found in itertools.product(reads, repeat=many)]


def fits(tree, sequence):
    """Whether a sequence matches a pattern, word by word as the document says it."""
    name = tree[0]
    if name == "empty":
        return sequence == ()
    if name == "class":
        return len(sequence) == 1 and sequence[0] in members(tree)
    if name == "or":
        return fits(tree[1], sequence) or fits(tree[2], sequence)
    if name == "and":
        return fits(tree[1], sequence) and fits(tree[2], sequence)
    if name == "not":
        return not fits(tree[1], sequence)
    if name == "then":
        cuts = range(len(sequence) + 1)
        return any(fits(tree[1], sequence[:at]) and fits(tree[2], sequence[at:]) for at in cuts)
    cuts = range(1, len(sequence) + 1)
    return sequence == () or any(fits(tree[1], sequence[:at]) and fits(tree, sequence[at:]) for at in cuts)


def members(tree):
    """The set of the symbols that belong to a class."""
    _, negated, holders, letters = tree
    listed = {holder + letter for holder in holders or EVERY_HOLDER for letter in letters or EVERY_LETTER}
    return set(EVERY_SYMBOL) - listed if negated else listed


def random_tree(dice, nodes, holders="@AB", letters="ab"):
    """A pattern with exactly so many nodes."""
    if nodes == 1:
        if dice.random() < 0.15:
            return EMPTY
        return ("class", dice.random() < 0.25, random_part(dice, holders), random_part(dice, letters))
    if nodes == 2 or dice.random() < 0.3:
        return (dice.choice(["star", "not"]), random_tree(dice, nodes - 1, holders, letters))
    left = dice.randint(1, nodes - 2)
    name = dice.choice(["or", "and", "then", "then"])
    return (name, random_tree(dice, left, holders, letters),
            random_tree(dice, nodes - 1 - left, holders, letters))


def random_part(dice, characters):
    return "".join(character for character in characters if dice.random() < 0.4)


def random_sequence(dice, reads, many):
    return tuple(dice.choice(reads) for _ in range(many))


def dice_for(name):
    """A source of numbers that is the same in every run."""
    return random.Random(name)


def is_plain(value):
    """Whether a value consists of tuples, plain integers, True, False, None and strings throughout."""
    kind = [found for found in (tuple, int, bool, str, None.__class__) if value.__class__ is found]
    if value.__class__ is tuple:
        return all(is_plain(part) for part in value)
    return bool(kind)


def has_flags(value):
    """Whether True or False occurs in a value."""
    if value.__class__ is tuple:
        return any(has_flags(part) for part in value)
    return value is True or value is False


def random_stage(dice, nodes, holders="@AB", letters="ab", outputs=("$", "$", "$$", "a$", "$b", "b", "", "a$b")):
    """A stage whose patterns have at most so many nodes."""
    return tuple((random_tree(dice, dice.randint(1, nodes), holders, letters),
                  ("class", dice.random() < 0.25, random_part(dice, holders), random_part(dice, letters)),
                  random_tree(dice, dice.randint(1, nodes), holders, letters),
                  dice.choice(outputs)) for _ in range(dice.randint(1, 3)))


def random_pipeline(dice, nodes, holders="@AB", letters="ab"):
    return tuple(random_stage(dice, nodes, holders, letters) for _ in range(dice.randint(1, 3)))
