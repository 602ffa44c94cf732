"""Policies: [240], [241] and excerptcheck/policies.py in the interface."""

import unittest

from excerptcheck.policies import complies, weight
from samples import (ALL, ANY, EMPTY, NONE, dice_for, fits, no, of, random_sequence, random_tree, sequences, star, then)

A, B = of("A"), of("B")
SOME = ("@a", "@b", "Aa", "Ab", "Ba", "Zz")


class Matches(unittest.TestCase):
    def test_ordinary_patterns(self):
        self.assertIs(complies(("matches", star(B)), ("Ba", "Bb")), True)
        self.assertIs(complies(("matches", star(B)), ("Ba", "@a")), False)
        self.assertIs(complies(("matches", no(then(ALL, A, A, ALL))), ("Aa", "Ba", "Aa")), True)

    def test_the_empty_excerpt(self):
        self.assertIs(complies(("matches", ALL), ()), True)
        self.assertIs(complies(("matches", EMPTY), ()), True)
        self.assertIs(complies(("matches", ANY), ()), False)
        self.assertIs(complies(("matches", NONE), ()), False)

    def test_patterns_that_are_too_complex_for_a_machine(self):
        late = ("matches", then(ALL, A, *[ANY] * 6))
        self.assertIs(complies(late, ("Ba",) * 93 + ("Aa",) + ("Ba",) * 6), True)
        self.assertIs(complies(late, ("Ba",) * 92 + ("Aa",) + ("Ba",) * 7), False)

    def test_random_patterns(self):
        dice = dice_for("policies of patterns")
        for _ in range(200):
            tree, sequence = random_tree(dice, dice.randint(1, 9)), random_sequence(dice, SOME, dice.randint(0, 5))
            self.assertIs(complies(("matches", tree), sequence), fits(tree, sequence))


class Share(unittest.TestCase):
    def test_the_example_of_the_interface(self):
        self.assertIs(complies(("share", "A", 1, 2), ("Aa", "Ba", "Ba")), True)

    def test_a_bound_that_is_just_met(self):
        half = ("share", "A", 1, 2)
        self.assertIs(complies(half, ("Aa", "Ba")), True)
        self.assertIs(complies(half, ("Aa", "Ba", "Aa")), False)
        self.assertIs(complies(half, ("Aa", "Ba", "@a")), True)
        third = ("share", "AB", 333, 999)
        self.assertIs(complies(third, ("Aa", "@a", "@a", "Bb", "Zz", "Zz")), True)
        self.assertIs(complies(third, ("Aa", "@a", "@a", "Bb", "Zz")), False)

    def test_p_is_0(self):
        for q in (1, 2, 1000):
            self.assertIs(complies(("share", "A", 0, q), ("Ba", "@a", "Zz")), True)
            self.assertIs(complies(("share", "A", 0, q), ("Ba",) * 99 + ("Ab",)), False)

    def test_shares_that_nothing_exceeds(self):
        for p, q in ((1, 1), (1000, 1), (7, 5), (1000, 1000)):
            self.assertIs(complies(("share", "@ABZ", p, q), ("Aa", "Ba", "@a", "Zz")), True)
        self.assertIs(complies(("share", "@ABZ", 999, 1000), ("Aa",)), False)

    def test_the_empty_excerpt_complies_with_every_share(self):
        for holders, p, q in (("A", 0, 1), ("@", 0, 1000), ("AB", 1, 2), ("QXYZ", 1000, 1)):
            self.assertIs(complies(("share", holders, p, q), ()), True)

    def test_holders_of_no_alphabet_and_the_editor(self):
        self.assertIs(complies(("share", "QXYZ", 0, 1), ("Aa", "@a")), True)
        self.assertIs(complies(("share", "@", 1, 3), ("@a", "Aa", "Ba")), True)
        self.assertIs(complies(("share", "@", 1, 3), ("@a", "Aa")), False)

    def test_long_excerpts(self):
        tenth = ("share", "A", 1, 10)
        self.assertIs(complies(tenth, ("Aa",) * 10 + ("Ba",) * 90), True)
        self.assertIs(complies(tenth, ("Aa",) * 11 + ("Ba",) * 89), False)
        self.assertIs(complies(("share", "A", 999, 1000), ("Aa",) * 100), False)
        self.assertIs(complies(("share", "A", 1, 1000), ("Ba",) * 999 + ("Aa",)), True)
        self.assertIs(complies(("share", "A", 1, 1000), ("Ba",) * 998 + ("Aa",)), False)

    def test_as_the_document_words_it(self):
        dice = dice_for("shares")
        for _ in range(300):
            holders = "".join(holder for holder in "@ABZ" if dice.random() < 0.5) or "A"
            p, q = dice.randint(0, 5), dice.randint(1, 5)
            sequence = random_sequence(dice, SOME, dice.randint(0, 8))
            belonging = len([symbol for symbol in sequence if symbol[0] in holders])
            self.assertIs(complies(("share", holders, p, q), sequence), q * belonging <= p * len(sequence))


class Sum(unittest.TestCase):
    def test_a_bound_that_is_just_met(self):
        prices = (("A", 3), ("B", 5))
        self.assertIs(complies(("sum", prices, 11), ("Aa", "Ab", "Ba")), True)
        self.assertIs(complies(("sum", prices, 10), ("Aa", "Ab", "Ba")), False)

    def test_negative_prices_and_bounds(self):
        prices = (("@", -4), ("A", 3))
        self.assertIs(complies(("sum", prices, -1), ("Aa", "@a")), True)
        self.assertIs(complies(("sum", prices, -2), ("Aa", "@a")), False)
        self.assertIs(complies(("sum", prices, -1000000), ("@a",) * 100), False)
        self.assertIs(complies(("sum", (("A", -1000),), -100000), ("Aa",) * 100), True)
        self.assertIs(complies(("sum", (("A", -1000),), -100001), ("Aa",) * 100), False)

    def test_holders_that_are_not_listed_cost_nothing(self):
        self.assertIs(complies(("sum", (("A", 1),), 1), ("Aa", "Ba", "@a", "Zz")), True)
        self.assertIs(complies(("sum", (), 0), ("Aa", "Ba", "@a", "Zz")), True)
        self.assertIs(complies(("sum", (), -1), ("Aa",)), False)

    def test_holders_of_no_alphabet(self):
        self.assertIs(complies(("sum", (("Q", 9), ("Z", 2)), 1), ("Aa", "Zz")), False)
        self.assertIs(complies(("sum", (("Q", 9), ("Z", 2)), 2), ("Aa", "Zz")), True)

    def test_the_empty_excerpt(self):
        self.assertIs(complies(("sum", (("A", 1000),), 0), ()), True)
        self.assertIs(complies(("sum", (("A", -1000),), -1), ()), False)
        self.assertIs(complies(("sum", (), 1000000), ()), True)

    def test_long_excerpts(self):
        self.assertIs(complies(("sum", (("A", 1000), ("B", 1)), 99001), ("Aa",) * 99 + ("Ba",)), True)
        self.assertIs(complies(("sum", (("A", 1000), ("B", 1)), 99000), ("Aa",) * 99 + ("Ba",)), False)

    def test_a_price_counts_each_symbol_whatever_its_letter(self):
        for sequence in sequences(("@a", "Ab", "Az"), 4):
            many = len([symbol for symbol in sequence if symbol[0] == "A"])
            self.assertIs(complies(("sum", (("A", 2),), 5), sequence), 2 * many <= 5)


class Weight(unittest.TestCase):
    def test_the_example_of_the_interface(self):
        self.assertEqual(weight(("sum", (("@", 7), ("A", -2)), 100), ("Aa", "Aa", "@a", "Ba")), 3)

    def test_shares(self):
        self.assertEqual(weight(("share", "A", 1, 3), ("Aa",)), 2)
        self.assertEqual(weight(("share", "A", 1, 3), ("Ba",)), -1)
        self.assertEqual(weight(("share", "@A", 2, 5), ("@a", "Ab", "Ba", "Zz")), 3 + 3 - 2 - 2)
        self.assertEqual(weight(("share", "A", 0, 7), ("Aa", "Ba")), 7)
        self.assertEqual(weight(("share", "A", 1000, 1), ("Aa", "Ba")), -1999)

    def test_sums_do_not_depend_on_the_bound(self):
        for bound in (-1000000, 0, 1000000):
            self.assertEqual(weight(("sum", (("A", 5),), bound), ("Aa", "Ba", "Ab")), 10)

    def test_the_empty_output(self):
        self.assertEqual(weight(("share", "A", 1, 3), ()), 0)
        self.assertEqual(weight(("sum", (("A", 5),), 7), ()), 0)

    def test_outputs_of_100_symbols(self):
        self.assertEqual(weight(("share", "A", 0, 1000), ("Aa",) * 100), 100000)
        self.assertEqual(weight(("share", "A", 1000, 1), ("Ba",) * 100), -100000)
        self.assertEqual(weight(("sum", (("A", -1000),), 0), ("Aa",) * 100), -100000)

    def test_excerpts_comply_by_their_weight(self):
        dice = dice_for("weights")
        for _ in range(300):
            holders = "".join(holder for holder in "@ABZ" if dice.random() < 0.5) or "B"
            share = ("share", holders, dice.randint(0, 4), dice.randint(1, 4))
            prices = tuple((holder, dice.randint(-3, 3)) for holder in holders)
            costs = ("sum", prices, dice.randint(-3, 5))
            sequence = random_sequence(dice, SOME, dice.randint(0, 7))
            self.assertIs(complies(share, sequence), weight(share, sequence) <= 0)
            self.assertIs(complies(costs, sequence), weight(costs, sequence) <= costs[2])
            self.assertEqual(weight(share, sequence), sum(weight(share, (symbol,)) for symbol in sequence))
            self.assertEqual(weight(costs, sequence), sum(dict(prices).get(symbol[0], 0) for symbol in sequence))
            self.assertIs(weight(costs, sequence).__class__, int)


if __name__ == "__main__":
    unittest.main()
