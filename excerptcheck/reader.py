"""Reading patterns and pipelines from their texts."""

from excerptcheck.errors import InvalidPattern, InvalidPipeline, TooManyNodes
from excerptcheck.symbols import is_holder, is_letter
from excerptcheck.trees import node_count

MOST_NODES = 16
MOST_CHARACTERS = 3


class Level:
    """What was read so far behind an open parenthesis, or from the beginning of a text on."""

    def __init__(self):
        # Alternatives, which are lists of intersections, which are lists of factors with their signs "!".
        self.rows = [[[]]]
        self.signs = 0
        # Behind a factor the text may end, and nowhere else.
        self.complete = False
        # Directly behind its parenthesis a level can be closed as the empty sequence.
        self.fresh = True

    def sign(self):
        """Takes a "!" that stands before a factor."""
        self.signs += 1
        self.complete = self.fresh = False

    def take(self, tree):
        """Takes an atom, to which stars can still be added."""
        self.rows[-1][-1].append((self.signs, tree))
        self.signs = 0
        self.complete = True
        self.fresh = False

    def star(self):
        """Takes a star behind the last atom."""
        signs, tree = self.rows[-1][-1].pop()
        self.rows[-1][-1].append((signs, ("star", tree)))

    def divide(self, character):
        """Takes a "|" or a "&"."""
        if character == "|":
            self.rows.append([[]])
        else:
            self.rows[-1].append([])
        self.complete = False

    def tree(self):
        """The tree of all that was read."""
        return _folded("or", [_folded("and", [_folded("then", [_negated(signs, tree) for signs, tree in factors])
                                              for factors in row]) for row in self.rows])


def _folded(name, trees):
    """One tree of several ones, where each second operand contains the rest."""
    found = trees[-1]
    for tree in trees[-2::-1]:
        found = (name, tree, found)
    return found


def _negated(signs, tree):
    for _ in range(signs):
        tree = ("not", tree)
    return tree


def read_pattern(text):
    """The tree that a text denotes."""
    tree = _parsed(text)
    count = node_count(tree)
    if count > MOST_NODES:
        raise TooManyNodes(count)
    return tree


def _parsed(text):
    """The tree that a text denotes, however many nodes it has."""
    levels = [Level()]
    place = 0
    while place < len(text):
        character = text[place]
        level = levels[-1]
        if character == "!":
            level.sign()
        elif character == "(":
            levels.append(Level())
        elif character == ")" and len(levels) > 1 and (level.complete or level.fresh):
            levels.pop()
            levels[-1].take(("empty",) if level.fresh else level.tree())
        elif character == "*" and level.complete:
            level.star()
        elif character in "|&" and level.complete:
            level.divide(character)
        else:
            tree, place = _class_at(text, place)
            level.take(tree)
            continue
        place += 1
    if len(levels) > 1 or not levels[-1].complete:
        raise InvalidPattern(len(text))
    return levels[0].tree()


def _class_at(text, place):
    """The symbol class that begins at a place of a text, and the place behind it."""
    if place == len(text):
        raise InvalidPattern(place)
    character = text[place]
    if character == "[":
        return _listing(text, place + 1)
    if character == ".":
        return ("class", False, "", ""), place + 1
    if is_holder(character):
        return ("class", False, character, ""), place + 1
    if is_letter(character):
        return ("class", False, "", character), place + 1
    raise InvalidPattern(place)


def _listing(text, begin):
    """The symbol class whose bracket stands before a place of a text, and the place behind it."""
    negated = text[begin:begin + 1] == "^"
    if negated:
        begin += 1
    end = begin
    while end < len(text) and (is_holder(text[end]) or is_letter(text[end])):
        end += 1
    if text[end:end + 1] != "]":
        raise InvalidPattern(end)
    listed = sorted(set(text[begin:end]))
    holders = "".join([character for character in listed if is_holder(character)])
    letters = "".join([character for character in listed if is_letter(character)])
    return ("class", negated, holders, letters), end + 1


def read_pipeline(texts):
    """The pipeline with the trees in place of their texts."""
    stages = []
    errors = []
    for stage, rows in enumerate(texts):
        rules = []
        for rule, row in enumerate(rows):
            values, wrong = _read_rule(row)
            rules.append(values)
            errors.extend([(stage, rule, element, place) for element, place in wrong])
        stages.append(tuple(rules))
    if errors:
        raise InvalidPipeline(tuple(errors))
    return tuple(stages)


def _read_rule(texts):
    """A rule in place of its texts, and the pairs of an element and a place for the texts that are wrong."""
    before, target, after, output = texts
    values = []
    wrong = []
    for element, read, text in ((0, read_pattern, before), (1, _read_class, target), (2, read_pattern, after),
                                (3, _read_output, output)):
        try:
            values.append(read(text))
        except InvalidPattern as error:
            wrong.append((element, error.place))
        except TooManyNodes:
            wrong.append((element, None))
    return tuple(values), wrong


def _read_class(text):
    """The tree of a text that is one symbol class and nothing else."""
    tree, place = _class_at(text, 0)
    if place < len(text):
        raise InvalidPattern(place)
    return tree


def _read_output(text):
    """The output of a rule, which is its text."""
    for place, character in enumerate(text):
        if place == MOST_CHARACTERS or not (character == "$" or is_letter(character)):
            raise InvalidPattern(place)
    return text
