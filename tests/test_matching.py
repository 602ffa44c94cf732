"""Which symbols belong to a class, which sequences match a pattern: [40], [41] and excerptcheck/matching.py."""

import unittest

from excerptcheck.matching import belongs, matches
from samples import (ALL, ANY, EMPTY, EVERY_SYMBOL, NONE, both, but, dice_for, either, fits, members, no, of,
                     random_part, random_sequence, random_tree, sequences, star, then)

A, B = of(letters="a"), of(letters="b")
SHORT = sequences(("@a", "Aa", "Ab", "Bb"), 4)


class Classes(unittest.TestCase):
    def test_example(self):
        self.assertIs(belongs("Ab", ("class", True, "A", "a")), True)

    def test_every_symbol_belongs_to_the_class_that_lists_nothing(self):
        for symbol in EVERY_SYMBOL:
            self.assertIs(belongs(symbol, ANY), True)

    def test_no_symbol_belongs_to_the_negated_class_that_lists_nothing(self):
        for symbol in EVERY_SYMBOL:
            self.assertIs(belongs(symbol, NONE), False)

    def test_holders_and_letters_count_together(self):
        self.assertIs(belongs("Aa", of("A", "a")), True)
        self.assertIs(belongs("Ab", of("A", "a")), False)
        self.assertIs(belongs("Ba", of("A", "a")), False)
        self.assertIs(belongs("Bb", of("A", "a")), False)

    def test_what_is_not_listed_does_not_count(self):
        self.assertIs(belongs("Ab", of("A", "")), True)
        self.assertIs(belongs("@b", of("A", "")), False)
        self.assertIs(belongs("Zb", of("", "b")), True)
        self.assertIs(belongs("Zc", of("", "b")), False)
        self.assertIs(belongs("@b", of("@", "")), True)

    def test_exactly_the_other_symbols_belong_to_the_negated_class(self):
        for holders in ("", "@", "A", "@A", "BZ", "@ABC"):
            for letters in ("", "a", "bz", "abc"):
                with self.subTest((holders, letters)):
                    for symbol in EVERY_SYMBOL:
                        listed = symbol in members(of(holders, letters))
                        self.assertIs(belongs(symbol, of(holders, letters)), listed)
                        self.assertIs(belongs(symbol, but(holders, letters)), not listed)

    def test_all_holders_and_all_letters(self):
        every = of("@ABCDEFGHIJKLMNOPQRSTUVWXYZ", "abcdefghijklmnopqrstuvwxyz")
        self.assertTrue(all(belongs(symbol, every) for symbol in EVERY_SYMBOL))

    def test_random_classes(self):
        dice = dice_for("classes")
        for _ in range(200):
            tree = ("class", dice.random() < 0.5, random_part(dice, "@ADXZ"), random_part(dice, "adxz"))
            for symbol in (holder + letter for holder in "@ABDXZ" for letter in "abdxz"):
                self.assertIs(belongs(symbol, tree), symbol in members(tree))


class Nodes(unittest.TestCase):
    def check(self, tree, expected):
        """Compares with a list of all the short sequences that match."""
        self.assertEqual([found for found in SHORT if matches(tree, found)], expected)

    def test_examples(self):
        tree = both(no(star(A)), either(B, EMPTY))
        self.assertIs(matches(tree, ("@b",)), True)
        self.assertIs(matches(tree, ()), False)

    def test_empty(self):
        self.check(EMPTY, [()])

    def test_class(self):
        self.check(ANY, [("@a",), ("Aa",), ("Ab",), ("Bb",)])
        self.check(of("A", ""), [("Aa",), ("Ab",)])
        self.check(NONE, [])
        self.check(of("X", ""), [])

    def test_or(self):
        self.check(("or", EMPTY, of("B", "b")), [(), ("Bb",)])
        self.check(("or", of("B", "b"), EMPTY), [(), ("Bb",)])
        self.check(("or", NONE, NONE), [])

    def test_and(self):
        self.check(("and", of("A", ""), A), [("Aa",)])
        self.check(("and", of("A", ""), EMPTY), [])
        self.check(("and", star(A), EMPTY), [()])

    def test_then(self):
        self.check(("then", of("@", ""), of("B", "")), [("@a", "Bb")])
        self.check(("then", EMPTY, of("B", "")), [("Bb",)])
        self.check(("then", of("B", ""), EMPTY), [("Bb",)])
        self.check(("then", EMPTY, EMPTY), [()])
        self.check(("then", NONE, ALL), [])
        self.check(("then", ALL, NONE), [])

    def test_star(self):
        self.check(star(of("B", "")), [("Bb",) * many for many in range(5)])
        self.check(star(NONE), [()])
        self.check(star(EMPTY), [()])
        self.check(star(then(of("@", ""), of("B", ""))), [(), ("@a", "Bb"), ("@a", "Bb", "@a", "Bb")])
        self.check(ALL, SHORT)

    def test_star_over_what_matches_the_empty_sequence(self):
        self.check(star(star(of("B", ""))), [("Bb",) * many for many in range(5)])
        self.check(star(either(EMPTY, then(of("B", ""), of("B", "")))), [(), ("Bb",) * 2, ("Bb",) * 4])
        self.check(star(either(then(of("B", ""), of("B", "")), EMPTY)), [(), ("Bb",) * 2, ("Bb",) * 4])
        self.check(star(no(EMPTY)), SHORT)
        self.check(star(no(ALL)), [()])

    def test_not(self):
        self.check(no(ALL), [])
        self.check(no(no(EMPTY)), [()])
        self.check(no(EMPTY), SHORT[1:])
        self.check(no(NONE), SHORT)
        self.check(no(no(of("B", ""))), [("Bb",)])
        self.check(no(of("B", "")), [found for found in SHORT if found != ("Bb",)])

    def test_not_within_then(self):
        two = then(no(EMPTY), no(EMPTY))
        self.check(two, [found for found in SHORT if len(found) >= 2])
        self.check(then(no(star(A)), EMPTY), [found for found in SHORT if any(symbol[1] == "b" for symbol in found)])
        self.check(then(no(of("B", "")), of("B", "")),
                   [found for found in SHORT if found[-1:] == ("Bb",) and found != ("Bb", "Bb")])

    def test_and_over_what_matches_the_empty_sequence(self):
        self.check(both(star(A), star(of("A", ""))), [("Aa",) * many for many in range(5)])
        self.check(both(ALL, no(EMPTY)), SHORT[1:])
        self.check(both(no(EMPTY), no(EMPTY)), SHORT[1:])

    def test_symbols_of_no_alphabet(self):
        tree = then(of("Q", "q"), star(of("@", "z")))
        self.assertIs(matches(tree, ("Qq", "@z", "@z")), True)
        self.assertIs(matches(tree, ("Qq", "@z", "Zz")), False)


class Compared(unittest.TestCase):
    def test_patterns_of_all_sizes_on_all_short_sequences(self):
        dice = dice_for("short sequences")
        short = sequences(("@a", "Ab", "Ba"), 4)
        for nodes in range(1, 17):
            for _ in range(12):
                tree = random_tree(dice, nodes)
                for found in short:
                    self.assertIs(matches(tree, found), fits(tree, found), (tree, found))

    def test_patterns_of_16_nodes_on_somewhat_longer_sequences(self):
        dice = dice_for("longer sequences")
        for _ in range(60):
            tree = random_tree(dice, 16)
            for many in (5, 6, 7):
                found = random_sequence(dice, ("@a", "Aa", "Ab"), many)
                self.assertIs(matches(tree, found), fits(tree, found), (tree, found))

    def test_chains_of_16_nodes_on_one_side(self):
        left, right = A, A
        for _ in range(7):
            left, right = ("then", left, B), ("then", B, right)
        for tree, word in ((left, "abbbbbbb"), (right, "bbbbbbba")):
            spelled = tuple("@" + letter for letter in word)
            self.assertIs(matches(tree, spelled), True)
            self.assertIs(matches(no(tree), spelled), False)
            self.assertIs(matches(tree, spelled[:-1]), False)
            self.assertIs(matches(tree, spelled + ("@b",)), False)
            self.assertIs(matches(tree, spelled[::-1]), False)

    def test_chains_of_stars_and_nots(self):
        stars, nots = A, A
        for _ in range(15):
            stars, nots = star(stars), no(nots)
        self.assertIs(matches(stars, ("Aa",) * 100), True)
        self.assertIs(matches(stars, ("Aa",) * 99 + ("Ab",)), False)
        self.assertIs(matches(stars, ()), True)
        self.assertIs(matches(nots, ("Aa",)), False)
        self.assertIs(matches(nots, ("Aa",) * 100), True)

    def test_a_part_that_occurs_twice(self):
        part = star(then(A, B))
        tree = ("then", part, ("and", ("not", part), ("then", ANY, part)))
        for found in sequences(("@a", "@b"), 7):
            self.assertIs(matches(tree, found), fits(tree, found), found)


class Long(unittest.TestCase):
    def test_100_symbols(self):
        pair = ("Aa", "Bb")
        tree = star(then(of("A", "a"), of("B", "b")))
        self.assertIs(matches(tree, pair * 50), True)
        self.assertIs(matches(tree, pair * 49 + ("Aa",)), False)
        self.assertIs(matches(tree, pair * 49 + ("Bb", "Aa")), False)
        self.assertIs(matches(no(tree), pair * 49 + ("Bb", "Aa")), True)

    def test_the_first_and_the_last_of_100_symbols_count(self):
        inside = ("@b",) * 98
        tree = then(of("A", ""), ALL, of("B", ""))
        self.assertIs(matches(tree, ("Aa",) + inside + ("Ba",)), True)
        self.assertIs(matches(tree, ("@a",) + inside + ("Ba",)), False)
        self.assertIs(matches(tree, ("Aa",) + inside + ("@a",)), False)

    def test_lengths_that_are_put_together(self):
        three = then(ANY, ANY, ANY)
        five = then(ANY, ANY, ANY, ANY, ANY)
        for many in range(101):
            found = ("Aa",) * many
            self.assertIs(matches(star(three), found), many in range(0, 101, 3))
            self.assertIs(matches(star(five), found), many in range(0, 101, 5))
            # Only these cannot be made from threes and fives.
            self.assertIs(matches(star(either(three, five)), found), many not in (1, 2, 4, 7))

    def test_stars_within_stars(self):
        tree = star(star(star(then(star(A), star(B)))))
        dice = dice_for("stars within stars")
        for many in (0, 1, 50, 100):
            self.assertIs(matches(tree, random_sequence(dice, ("@a", "Ab"), many)), True)
        self.assertIs(matches(tree, ("@a",) * 99 + ("@c",)), False)

    def test_somewhere_within_100_symbols(self):
        tree = then(ALL, of("B", "b"), of("A", "a"), of("B", "b"), ALL)
        for many in range(98):
            found = ("Aa",) * many + ("Bb", "Aa", "Bb") + ("Aa",) * (97 - many)
            self.assertIs(matches(tree, found), True)
            self.assertIs(matches(no(tree), found), False)
        self.assertIs(matches(tree, ("Aa", "Bb") * 1 + ("Aa",) * 98), False)

    def test_nothing_that_is_passed_is_remembered(self):
        tree = star(then(A, B))
        for _ in range(2):
            self.assertIs(matches(tree, ("Aa", "Ab")), True)
            self.assertIs(matches(tree, ("Aa",)), False)
            self.assertIs(matches(tree, ()), True)


if __name__ == "__main__":
    unittest.main()
