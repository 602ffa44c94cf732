"""Patterns as trees: [40], [42], [43] and excerptcheck/trees.py in the interface."""

import unittest

from excerptcheck.matching import matches
from excerptcheck.trees import mirrored, node_count, parts_of
from samples import (ALL, ANY, EMPTY, NONE, both, but, dice_for, either, fits, is_plain, no, of, random_sequence,
                     random_tree, sequences, star, then)

A, B, C = of(letters="a"), of(letters="b"), of(letters="c")
LEAVES = [EMPTY, ANY, NONE, A, of("@AZ", "az"), but("B", "")]


def left_chain(name, nodes):
    tree = A
    for _ in range((nodes - 1) // 2):
        tree = (name, tree, B)
    return tree


def right_chain(name, nodes):
    tree = A
    for _ in range((nodes - 1) // 2):
        tree = (name, B, tree)
    return tree


class NodeCount(unittest.TestCase):
    def test_a_leaf_is_one_node(self):
        for leaf in LEAVES:
            self.assertEqual(node_count(leaf), 1)

    def test_every_node_counts_once(self):
        for name in ("or", "and", "then"):
            self.assertEqual(node_count((name, A, B)), 3)
        for name in ("star", "not"):
            self.assertEqual(node_count((name, A)), 2)
        self.assertEqual(node_count(then(A, star(B))), 4)
        self.assertEqual(node_count(either(no(EMPTY), both(A, star(ANY)))), 7)

    def test_a_part_that_occurs_twice_counts_twice(self):
        part = star(then(A, B))
        self.assertEqual(node_count(("or", part, part)), 9)
        self.assertEqual(node_count(("then", ("or", part, part), ("not", ("and", A, A)))), 14)

    def test_patterns_of_16_nodes(self):
        dice = dice_for("16 nodes")
        for _ in range(100):
            self.assertEqual(node_count(random_tree(dice, 16)), 16)
        for name in ("or", "and", "then"):
            self.assertEqual(node_count(no(left_chain(name, 15))), 16)
            self.assertEqual(node_count(no(right_chain(name, 15))), 16)

    def test_a_chain_of_nodes_with_one_operand(self):
        tree = A
        for _ in range(15):
            tree = star(tree)
        self.assertEqual(node_count(tree), 16)

    def test_somewhat_more_than_16_nodes(self):
        self.assertEqual(node_count(left_chain("then", 31)), 31)
        self.assertEqual(len(parts_of(right_chain("then", 31))), 31)


class Parts(unittest.TestCase):
    def test_a_leaf_is_its_only_part(self):
        for leaf in LEAVES:
            self.assertEqual(parts_of(leaf), (leaf,))

    def test_the_parts_of_the_first_operand_come_first_and_the_pattern_last(self):
        for name in ("or", "and", "then"):
            self.assertEqual(parts_of((name, A, B)), (A, B, (name, A, B)))
            left = (name, A, B)
            self.assertEqual(parts_of((name, left, C)), (A, B, left, C, (name, left, C)))
            self.assertEqual(parts_of((name, C, left)), (C, A, B, left, (name, C, left)))
        for name in ("star", "not"):
            self.assertEqual(parts_of((name, A)), (A, (name, A)))

    def test_equal_parts_are_listed_as_often_as_they_occur(self):
        tree = ("and", star(A), star(A))
        self.assertEqual(parts_of(tree), (A, star(A), A, star(A), tree))

    def test_patterns_of_16_nodes(self):
        dice = dice_for("parts of 16 nodes")
        for _ in range(100):
            tree = random_tree(dice, 16)
            self.assertEqual(parts_of(tree), tuple(listed(tree)))
            self.assertEqual(len(parts_of(tree)), 16)
            self.assertTrue(is_plain(parts_of(tree)))

    def test_chains_on_one_side(self):
        tree = left_chain("then", 15)
        self.assertEqual(parts_of(tree)[:3], (A, B, ("then", A, B)))
        tree = right_chain("then", 15)
        self.assertEqual(parts_of(tree)[:9], (B,) * 7 + (A, ("then", B, A)))


def listed(tree):
    """The parts of a pattern, by going down from it and turning the list around."""
    found = []
    waiting = [tree]
    while waiting:
        part = waiting.pop()
        found.append(part)
        if part[0] not in ("empty", "class"):
            waiting.extend(part[1:])
    return found[::-1]


class Mirrored(unittest.TestCase):
    def test_example(self):
        self.assertEqual(mirrored(then(A, star(B))), ("then", ("star", ("class", False, "", "b")),
                                                      ("class", False, "", "a")))

    def test_leaves_stay_as_they_are(self):
        for leaf in LEAVES:
            self.assertEqual(mirrored(leaf), leaf)

    def test_the_operands_of_then_are_exchanged_at_every_depth(self):
        self.assertEqual(mirrored(("then", A, B)), ("then", B, A))
        self.assertEqual(mirrored(("then", A, ("then", B, C))), ("then", ("then", C, B), A))
        self.assertEqual(mirrored(("then", ("then", A, B), C)), ("then", C, ("then", B, A)))

    def test_other_nodes_keep_the_places_of_their_operands(self):
        for name in ("or", "and"):
            self.assertEqual(mirrored((name, A, B)), (name, A, B))
            self.assertEqual(mirrored((name, ("then", A, B), ("then", B, C))),
                             (name, ("then", B, A), ("then", C, B)))
        for name in ("star", "not"):
            self.assertEqual(mirrored((name, ("then", A, B))), (name, ("then", B, A)))

    def test_mirroring_twice_changes_nothing(self):
        dice = dice_for("mirrored twice")
        for _ in range(100):
            tree = random_tree(dice, 16)
            self.assertEqual(mirrored(mirrored(tree)), tree)
            self.assertTrue(is_plain(mirrored(tree)))

    def test_the_symbols_in_reverse_order_match_the_mirrored_pattern(self):
        dice = dice_for("mirrored sequences")
        short = sequences(("@a", "Ab", "Bb"), 3)
        for nodes in (3, 5, 8, 12, 16):
            for _ in range(15):
                tree = random_tree(dice, nodes)
                turned = mirrored(tree)
                for sequence in short:
                    self.assertEqual(fits(turned, sequence[::-1]), fits(tree, sequence))

    def test_long_sequences_in_reverse_order(self):
        dice = dice_for("mirrored long sequences")
        for _ in range(30):
            tree = then(star(random_tree(dice, 6)), random_tree(dice, 4))
            for many in (20, 100):
                sequence = random_sequence(dice, ("@a", "Ab", "Bb"), many)
                self.assertIs(matches(mirrored(tree), sequence[::-1]), matches(tree, sequence))

    def test_all_of_a_chain(self):
        tree = then(ALL, A, B, C)
        self.assertEqual(mirrored(tree), ("then", ("then", ("then", C, B), A), ALL))


if __name__ == "__main__":
    unittest.main()
