"""The grammar of [340] word by word, without the program.

Whether a text is one of a pattern is found by replacing parts of it by a single sign until one sign is left. Where a
wrong text goes wrong is found by trying to complete its beginnings.
"""

import functools
import itertools
import re

CLASS = re.compile(r"\[\^?[a-zA-Z@]*\]|[a-zA-Z@.]")
# One sign "x" stands for a part that can stand wherever an atom can.
SHORTER = (("()", "x"), ("(x)", "x"), ("x*", "x"), ("!x", "x"), ("xx", "x"), ("x|x", "x"), ("x&x", "x"))
ENDS = ["".join(parts) for parts in itertools.product(("", "]", "a"), [")" * many for many in range(6)])]


def is_class(text):
    return CLASS.fullmatch(text) is not None


def is_pattern(text):
    if "x" in CLASS.sub("", text):
        return False
    left = CLASS.sub("x", text)
    if set(left) - set("x()*!|&"):
        return False
    while True:
        before = left
        for part, sign in SHORTER:
            left = left.replace(part, sign)
        if left == before:
            return left == "x"


def wrong_place(text, is_whole):
    """The index of the first character with which no whole text continues, None if the text is a whole one."""
    if is_whole(text):
        return None
    for place in range(len(text)):
        if not can_continue(text[:place + 1], is_whole):
            return place
    return len(text)


@functools.cache
def can_continue(text, is_whole):
    return any(is_whole(text + end) for end in ENDS)


def tree_of(text):
    """The tree of a text of a pattern, by cutting it at the operators that stand outside of all parentheses."""
    parts = cut(text, "|")
    if len(parts) > 1:
        return ("or", tree_of(parts[0]), tree_of(text[len(parts[0]) + 1:]))
    parts = cut(text, "&")
    if len(parts) > 1:
        return ("and", tree_of(parts[0]), tree_of(text[len(parts[0]) + 1:]))
    factor = first_factor(text)
    if factor != text:
        return ("then", tree_of(factor), tree_of(text[len(factor):]))
    if text[0] == "!":
        return ("not", tree_of(text[1:]))
    if text[-1] == "*":
        return ("star", tree_of(text[:-1]))
    if text == "()":
        return ("empty",)
    if text[0] == "(":
        return tree_of(text[1:-1])
    listed = text.strip("[]^.")
    letters = "".join(sorted({character for character in listed if "a" <= character <= "z"}))
    return ("class", text.startswith("[^"), "".join(sorted(set(listed) - set(letters))), letters)


def cut(text, sign):
    """The parts of a text between these signs, as far as they stand outside of parentheses."""
    parts, depth = [""], 0
    for character in text:
        depth += (character == "(") - (character == ")")
        if character == sign and depth == 0:
            parts.append("")
        else:
            parts[-1] += character
    return parts


def first_factor(text):
    """The first factor of a text of a concatenation, with its signs and its stars."""
    at = 0
    while text[at] == "!":
        at += 1
    if text[at] == "(":
        depth = 0
        while True:
            depth += (text[at] == "(") - (text[at] == ")")
            at += 1
            if depth == 0:
                break
    else:
        at += len(CLASS.match(text, at).group())
    while text[at:at + 1] == "*":
        at += 1
    return text[:at]


def random_text(dice, nodes):
    """The text of a pattern, with parentheses also where they are not needed."""
    if nodes <= 1:
        return dice.choice(["a", "b", "A", "@", ".", "()", "[]", "[^]", "[bA]", "[^@ba]", "[aaBA]", "z"])
    form = dice.choice(["or", "and", "then", "then", "star", "not", "()"])
    if form == "()":
        return "(" + random_text(dice, nodes) + ")"
    if form == "star":
        return in_parentheses(dice, random_text(dice, nodes - 1), True) + "*"
    if form == "not":
        return "!" + in_parentheses(dice, random_text(dice, nodes - 1), True)
    left = dice.randint(1, max(1, nodes - 2))
    first, second = random_text(dice, left), random_text(dice, max(1, nodes - 1 - left))
    return in_parentheses(dice, first, False) + {"or": "|", "and": "&", "then": ""}[form] + in_parentheses(dice, second, False)


def in_parentheses(dice, text, often):
    return "(" + text + ")" if dice.random() < (0.6 if often else 0.2) else text
