"""Shown patterns and pipelines: [343] and excerptcheck/printer.py in the interface."""

import unittest

from excerptcheck.printer import show_pattern, show_pipeline
from excerptcheck.reader import read_pattern, read_pipeline
from excerptcheck.trees import node_count
from samples import (ALL, ANY, EMPTY, NONE, PIPELINE, both, but, dice_for, either, no, of, random_pipeline, random_tree,
                     star, then)
from texts import is_pattern, tree_of

a, b, c, A, B, EDITOR = of("", "a"), of("", "b"), of("", "c"), of("A"), of("B"), of("@")
LEVELS = {"or": 0, "and": 1, "then": 2, "not": 3, "star": 4, "class": 5, "empty": 5}
PLACES = (("or", 0, 1), ("or", 1, 0), ("and", 0, 2), ("and", 1, 1), ("then", 0, 3), ("then", 1, 2), ("not", 0, 3),
          ("star", 0, 4))
OF_LEVEL = (either(a, b), both(a, b), then(a, b), no(a), star(a), a, EMPTY)


class ShowPattern(unittest.TestCase):
    def show(self, *pairs):
        for tree, text in pairs:
            self.assertEqual(show_pattern(tree), text)
            self.assertEqual(read_pattern(text), tree)

    def test_the_example_of_the_interface(self):
        self.show((star(then(no(EMPTY), NONE)), "(!()[^])*"), (then(a, either(b, c)), "a(b|c)"))

    def test_classes(self):
        self.show((ANY, "."), (NONE, "[^]"), (a, "a"), (A, "A"), (EDITOR, "@"), (but("", "a"), "[^a]"), (but("A"), "[^A]"),
                  (but("@"), "[^@]"), (of("A", "a"), "[Aa]"), (of("AB"), "[AB]"), (of("", "ab"), "[ab]"),
                  (of("@AZ", "az"), "[@AZaz]"), (but("@B", "b"), "[^@Bb]"), (of("@", "z"), "[@z]"))

    def test_the_empty_sequence(self):
        self.show((EMPTY, "()"), (star(EMPTY), "()*"), (no(EMPTY), "!()"), (then(EMPTY, EMPTY), "()()"),
                  (either(EMPTY, a), "()|a"))

    def test_parentheses_in_every_place(self):
        for name, place, required in PLACES:
            for operand in OF_LEVEL:
                operands = [c] if name in ("not", "star") else [c, c]
                operands[place] = operand
                shown = show_pattern(operand)
                if LEVELS[operand[0]] < required:
                    shown = "(" + shown + ")"
                parts = ["c"] * len(operands)
                parts[place] = shown
                text = {"or": "|", "and": "&"}.get(name, "").join(parts)
                text = {"not": "!" + text, "star": text + "*"}.get(name, text)
                self.show(((name, *operands), text))

    def test_what_is_written_out(self):
        self.show((either(either(a, b), c), "(a|b)|c"), (either(a, b, c), "a|b|c"), (both(both(a, b), c), "(a&b)&c"),
                  (then(then(a, b), c), "(ab)c"), (then(a, b, c), "abc"), (both(either(a, b), c), "(a|b)&c"),
                  (both(a, either(b, c)), "a&(b|c)"), (either(both(a, b), c), "a&b|c"), (then(a, both(b, c)), "a(b&c)"),
                  (no(no(a)), "!!a"), (no(star(a)), "!a*"), (star(no(a)), "(!a)*"), (star(star(a)), "a**"),
                  (then(no(a), b), "!ab"), (no(then(a, b)), "!(ab)"), (then(a, no(b)), "a!b"), (both(then(a, b), c), "ab&c"),
                  (star(then(a, b)), "(ab)*"), (star(either(a, b)), "(a|b)*"), (then(star(a), star(b)), "a*b*"))

    def test_the_levels_of_pipelines(self):
        self.assertEqual(show_pipeline(PIPELINE), (((".*", "A", "B.*", "$"), (".*", "B", ".*", "$")),))

    def test_random_trees(self):
        dice = dice_for("shown patterns")
        for _ in range(1500):
            tree = random_tree(dice, dice.randint(1, 16), "@ABZ", "abz")
            text = show_pattern(tree)
            self.assertTrue(is_pattern(text))
            self.assertEqual(tree_of(text), tree)
            if len(text) <= 200:
                self.assertEqual(read_pattern(text), tree)

    def test_no_parentheses_without_need(self):
        dice = dice_for("parentheses without need")
        needed = 0
        for _ in range(500):
            tree = random_tree(dice, dice.randint(2, 12))
            text = show_pattern(tree)
            for first, second in pairs_of_parentheses(text):
                if second > first + 1:
                    less = text[:first] + text[first + 1:second] + text[second + 1:]
                    self.assertTrue(not is_pattern(less) or tree_of(less) != tree, text)
                    needed += 1
        self.assertGreater(needed, 300)

    def test_shown_texts_of_more_than_200_characters(self):
        wide = but("@ABCDEFGHIJKLMNOPQRSTUVWXYZ", "abcdefghijklmnopqrstuvwxyz")
        tree = then(*[wide] * 8)
        text = "[^@ABCDEFGHIJKLMNOPQRSTUVWXYZabcdefghijklmnopqrstuvwxyz]" * 8
        self.assertEqual(node_count(tree), 15)
        self.assertEqual(show_pattern(tree), text)
        self.assertGreater(len(text), 200)
        self.assertEqual(tree_of(text), tree)


def pairs_of_parentheses(text):
    found, opened = [], []
    for place, character in enumerate(text):
        if character == "(":
            opened.append(place)
        elif character == ")":
            found.append((opened.pop(), place))
    return found


class ShowPipeline(unittest.TestCase):
    def test_the_example_of_the_interface(self):
        texts = (((".*", "A", "B.*", "$"), (".*", "B", ".*", "$")),)
        self.assertEqual(show_pipeline(read_pipeline(texts)), texts)

    def test_several_stages_and_rules(self):
        pipeline = (((ALL, of("A", "a"), either(a, b), "a$b"), (EMPTY, ANY, no(EMPTY), "")), ((star(then(a, b)), NONE, A, "z"),))
        self.assertEqual(show_pipeline(pipeline), (((".*", "[Aa]", "a|b", "a$b"), ("()", ".", "!()", "")),
                                                   (("(ab)*", "[^]", "A", "z"),)))

    def test_reading_gives_the_pipeline_again(self):
        dice = dice_for("shown pipelines")
        for _ in range(300):
            pipeline = random_pipeline(dice, 12)
            self.assertEqual(read_pipeline(show_pipeline(pipeline)), pipeline)


if __name__ == "__main__":
    unittest.main()
