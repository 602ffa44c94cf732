"""Kinds of documents: [160], [5] and excerptcheck/kinds.py in the interface."""

import unittest

from excerptcheck.errors import TooComplex
from excerptcheck.kinds import kind_machine, of_kind
from oracles import is_least, takes
from samples import (ALL, ANY, EMPTY, EVERYTHING, NONE, both, but, dice_for, either, fits, has_flags, is_plain, no, of,
                     random_sequence, random_tree, sequences, star, then)

A, B, EDITOR = of("A"), of("B"), of("@")
ENDS_WITH_B = ("a", "AB", then(ALL, B))
FOURTH = then(ALL, A, ANY, ANY, ANY)


class KindMachine(unittest.TestCase):
    def test_the_example_of_the_interface(self):
        self.assertEqual(kind_machine(ENDS_WITH_B), (("Aa", "Ba"), ((0, 1), (0, 1)), (1,)))

    def test_every_document_and_no_document(self):
        self.assertEqual(kind_machine(EVERYTHING), (("Aa", "Ba"), ((0, 0),), (0,)))
        self.assertEqual(kind_machine(("a", "AB", NONE)), (("Aa", "Ba"), ((0, 0),), ()))
        self.assertEqual(kind_machine(("z", "Q", EMPTY)), (("Qz",), ((1,), (1,)), (0,)))

    def test_it_reads_the_owner_symbols(self):
        for letters, owners in (("a", "A"), ("bz", "AQZ"), ("abc", "ABC"), ("xyz", "M")):
            reads = tuple(owner + letter for owner in owners for letter in letters)
            self.assertEqual(kind_machine((letters, owners, ALL))[0], reads)

    def test_the_editor_does_not_count(self):
        self.assertEqual(kind_machine(("a", "AB", then(ALL, EDITOR, ALL))), (("Aa", "Ba"), ((0, 0),), ()))
        self.assertEqual(kind_machine(("a", "AB", star(but("@", "")))), (("Aa", "Ba"), ((0, 0),), (0,)))

    def test_random_kinds(self):
        dice = dice_for("kinds")
        for _ in range(100):
            letters, owners = dice.choice([("a", "AB"), ("ab", "A"), ("ab", "BC")])
            kind = (letters, owners, random_tree(dice, dice.randint(1, 8)))
            found = kind_machine(kind)
            self.assertTrue(is_least(found))
            self.assertTrue(is_plain(found) and not has_flags(found))
            for sequence in sequences(found[0], 4):
                self.assertIs(takes(found, sequence), fits(kind[2], sequence), (kind, sequence))

    def test_too_complex(self):
        for tree in (FOURTH, no(FOURTH), both(NONE, FOURTH)):
            with self.assertRaises(TooComplex):
                kind_machine(("a", "AB", tree))
        # Over the symbols of one owner the pattern just counts.
        self.assertEqual(len(kind_machine(("a", "A", FOURTH))[1]), 5)
        self.assertEqual(len(kind_machine(("ab", "BC", FOURTH))[1]), 1)

    def test_too_complex_over_the_owner_symbols_alone_counts(self):
        # With the editor's symbols the pattern would be too complex.
        self.assertEqual(len(kind_machine(("a", "AB", then(ALL, EDITOR, ANY, ANY, ANY)))[1]), 1)


class OfKind(unittest.TestCase):
    def test_examples(self):
        self.assertIs(of_kind(ENDS_WITH_B, ("Aa", "Ba")), True)
        self.assertIs(of_kind(ENDS_WITH_B, ("Ba", "Aa")), False)
        self.assertIs(of_kind(ENDS_WITH_B, ()), False)
        self.assertIs(of_kind(EVERYTHING, ()), True)

    def test_symbols_that_are_not_in_the_alphabet(self):
        for symbol in ("Ab", "Ca", "@a", "@b", "Zz"):
            for sequence in ((symbol,), ("Aa", symbol), (symbol, "Ba"), ("Aa", symbol, "Ba")):
                self.assertIs(of_kind(EVERYTHING, sequence), False)
                self.assertIs(of_kind(("a", "AB", of(symbol[0])), sequence), False)

    def test_the_editors_symbols_are_never_in_a_document(self):
        self.assertIs(of_kind(("a", "A", star(EDITOR)), ("@a",)), False)
        self.assertIs(of_kind(("a", "A", star(EDITOR)), ()), True)

    def test_patterns_that_are_too_complex(self):
        for tree in (FOURTH, no(FOURTH), both(ALL, FOURTH), then(ALL, A, *[ANY] * 12)):
            for many in (0, 3, 4, 5, 13, 14, 100):
                for symbol in ("Aa", "Ba"):
                    sequence = (symbol,) * many
                    self.assertIs(of_kind(("a", "AB", tree), sequence), holds(tree, sequence))
        self.assertIs(of_kind(("a", "AB", FOURTH), ("Aa", "Ba", "Ba", "Ba")), True)
        self.assertIs(of_kind(("a", "AB", FOURTH), ("Ba", "Aa", "Aa", "Aa")), False)
        self.assertIs(of_kind(("a", "AB", FOURTH), ("Aa", "Ba", "Ba", "@a")), False)

    def test_documents_of_100_symbols(self):
        self.assertIs(of_kind(ENDS_WITH_B, ("Aa",) * 99 + ("Ba",)), True)
        self.assertIs(of_kind(ENDS_WITH_B, ("Ba",) * 99 + ("Aa",)), False)
        self.assertIs(of_kind(EVERYTHING, ("Aa",) * 99 + ("@a",)), False)

    def test_random_kinds(self):
        dice = dice_for("of kind")
        for _ in range(200):
            kind = ("ab", "AB", either(random_tree(dice, 4), random_tree(dice, 5)))
            sequence = random_sequence(dice, ("Aa", "Ab", "Ba", "Bb", "@a")[:dice.choice([4, 5])], dice.randint(0, 5))
            expected = "@a" not in sequence and fits(kind[2], sequence)
            self.assertIs(of_kind(kind, sequence), expected)


def holds(tree, sequence):
    """Whether equal symbols match one of the patterns above."""
    negated, rest = (True, tree[1]) if tree[0] == "not" else (False, tree[2] if tree[0] == "and" else tree)
    last = 0
    while rest[0] == "then":
        rest = rest[2]
        last += 1
    # An A stands as many places from the end as there are nodes "then" behind the star.
    return (sequence[-last:-last + 1 or None] == ("Aa",) and len(sequence) >= last) != negated


if __name__ == "__main__":
    unittest.main()
