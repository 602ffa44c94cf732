"""Machines of patterns: [80] to [83], the parts of [42], and excerptcheck/machines.py in the interface."""

import unittest

from excerptcheck.errors import TooComplex
from excerptcheck.machines import alike, complexity, machine
from excerptcheck.matching import matches
from excerptcheck.trees import mirrored, node_count, parts_of
from oracles import SEVERAL, is_least, takes
from samples import (ALL, ANY, EMPTY, NONE, both, but, dice_for, either, has_flags, is_plain, no, of, random_tree,
                     sequences, star, then)

TWO = ("Aa", "Ba")
A, B = of("A"), of("B")
THREES, FOURS, FIVES = star(then(A, A, A)), star(then(A, A, A, A)), star(then(A, A, A, A, A))
# A number of symbols that 12 divides: 12 classes, and a 13th one if there are symbols besides those of A.
TWELVES = both(THREES, FOURS)
# The fourth symbol from the end decides: 16 classes.
FOURTH = then(ALL, A, ANY, ANY, ANY)
# The third symbol from the end decides: 8 classes.
THIRD = then(ALL, A, ANY, ANY)
NOT_TWO = no(then(ANY, ANY))
# No part of these patterns has more classes than the pattern itself.
WITH_12_CLASSES = {
    "not": no(then(ANY, star(A), then(ANY, ANY), ANY)),
    "star": star(either(then(then(then(A, ANY), ANY), B), A)),
    "then": then(NOT_TWO, then(ANY, A), ANY),
    "or": either(then(NOT_TWO, A, ANY), star(B)),
    "and": both(star(then(ANY, ANY, ANY)), star(then(ANY, ANY, ANY, ANY))),
}
WITH_13_CLASSES = {
    "star": star(either(B, then(ANY, then(ANY, A), A))),
    "then": then(then(NOT_TWO, B), ANY, A),
    "or": either(then(then(star(B), ANY), ANY, ANY), star(star(A))),
    "and": TWELVES,
}
WITH_14_CLASSES = {
    "star": star(then(then(ANY, B, star(A)), ANY, ANY)),
    "then": then(star(A), then(ANY, ANY, B), ANY),
    "or": either(then(then(ALL, A), ANY, ANY, A), ANY),
}


def is_too_complex(reads, tree):
    try:
        machine(reads, tree)
    except TooComplex:
        return True
    return False


class Machine(unittest.TestCase):
    def check(self, reads, tree, most):
        found = machine(reads, tree)
        self.assertTrue(is_plain(found) and not has_flags(found))
        self.assertEqual(found[0], reads)
        self.assertTrue(is_least(found), (tree, found))
        self.assertLessEqual(len(found[1]), 12)
        for sequence in sequences(reads, most):
            self.assertIs(takes(found, sequence), matches(tree, sequence), (tree, sequence))

    def test_example(self):
        self.assertEqual(machine(TWO, no(then(ALL, A, A, ALL))), (TWO, ((1, 0), (2, 0), (2, 2)), (0, 1)))

    def test_leaves(self):
        self.assertEqual(machine(TWO, EMPTY), (TWO, ((1, 1), (1, 1)), (0,)))
        self.assertEqual(machine(TWO, ANY), (TWO, ((1, 1), (2, 2), (2, 2)), (1,)))
        self.assertEqual(machine(TWO, A), (TWO, ((1, 2), (2, 2), (2, 2)), (1,)))
        self.assertEqual(machine(TWO, B), (TWO, ((1, 2), (1, 1), (1, 1)), (2,)))
        self.assertEqual(machine(TWO, but("A", "")), (TWO, ((1, 2), (1, 1), (1, 1)), (2,)))
        self.assertEqual(machine(TWO, NONE), (TWO, ((0, 0),), ()))
        self.assertEqual(machine(TWO, of("Q", "")), (TWO, ((0, 0),), ()))
        self.assertEqual(machine(TWO, of("", "a")), machine(TWO, ANY))

    def test_nodes_with_one_operand(self):
        self.assertEqual(machine(TWO, star(EMPTY)), machine(TWO, EMPTY))
        self.assertEqual(machine(TWO, star(NONE)), machine(TWO, EMPTY))
        self.assertEqual(machine(TWO, star(A)), (TWO, ((0, 1), (1, 1)), (0,)))
        self.assertEqual(machine(TWO, ALL), (TWO, ((0, 0),), (0,)))
        self.assertEqual(machine(TWO, no(ALL)), (TWO, ((0, 0),), ()))
        self.assertEqual(machine(TWO, no(EMPTY)), (TWO, ((1, 1), (1, 1)), (1,)))
        self.assertEqual(machine(TWO, no(no(A))), machine(TWO, A))
        self.assertEqual(machine(TWO, star(no(EMPTY))), machine(TWO, ALL))

    def test_nodes_with_two_operands(self):
        self.assertEqual(machine(TWO, either(A, B)), machine(TWO, ANY))
        self.assertEqual(machine(TWO, either(EMPTY, A)), (TWO, ((1, 2), (2, 2), (2, 2)), (0, 1)))
        self.assertEqual(machine(TWO, both(A, B)), machine(TWO, NONE))
        self.assertEqual(machine(TWO, both(star(A), no(EMPTY))), (TWO, ((1, 2), (1, 2), (2, 2)), (1,)))
        self.assertEqual(machine(TWO, then(A, B)), (TWO, ((1, 2), (2, 3), (2, 2), (2, 2)), (3,)))
        self.assertEqual(machine(TWO, then(EMPTY, A)), machine(TWO, A))
        self.assertEqual(machine(TWO, then(A, EMPTY)), machine(TWO, A))
        self.assertEqual(machine(TWO, then(ALL, B)), (TWO, ((0, 1), (0, 1)), (1,)))
        self.assertEqual(machine(TWO, then(star(A), star(A))), machine(TWO, star(A)))

    def test_classes_are_numbered_in_the_order_of_their_first_members(self):
        # The first member of class 1 is Aa, of class 2 Ba, of class 3 Aa Ba.
        self.assertEqual(machine(TWO, either(EMPTY, then(A, B))), (TWO, ((1, 2), (2, 3), (2, 2), (2, 2)), (0, 3)))
        self.assertEqual(machine(TWO, then(B, A)), (TWO, ((1, 2), (1, 1), (3, 1), (1, 1)), (3,)))

    def test_only_symbols_that_are_read_count(self):
        self.assertEqual(machine(("Aa",), either(A, B)), (("Aa",), ((1,), (2,), (2,)), (1,)))
        self.assertEqual(machine(("Zz",), star(B)), machine(("Zz",), EMPTY))
        self.assertEqual(len(machine(("Aa",), TWELVES)[1]), 12)

    def test_one_symbol_and_12_symbols(self):
        self.assertEqual(machine(("Aa",), ALL), (("Aa",), ((0,),), (0,)))
        found = machine(SEVERAL, then(ALL, of("@C", "b"), ANY))
        self.assertTrue(is_least(found))
        self.assertEqual(len(found[1]), 4)
        self.assertEqual(found[1][0], (0, 1) + (0,) * 8 + (1, 0))
        self.check(SEVERAL, then(ALL, of("@C", "b"), ANY), 3)

    def test_random_patterns(self):
        dice = dice_for("machines")
        for nodes in range(1, 17):
            for _ in range(25):
                tree = random_tree(dice, nodes)
                for reads in (("Ab",), ("@a", "Ab")):
                    if not is_too_complex(reads, tree):
                        self.check(reads, tree, 6)

    def test_random_patterns_over_more_symbols(self):
        dice = dice_for("machines over more symbols")
        for _ in range(40):
            tree = random_tree(dice, dice.randint(4, 16))
            if not is_too_complex(SEVERAL[:6], tree):
                self.check(SEVERAL[:6], tree, 3)

    def test_patterns_that_the_same_sequences_match_have_one_machine(self):
        for first, second in SAME:
            for reads in (("Aa",), TWO, ("@a", "Aa", "Ba")):
                self.assertEqual(machine(reads, first), machine(reads, second))

    def test_the_mirrored_pattern(self):
        self.assertEqual(machine(TWO, mirrored(then(ALL, A, ANY))), machine(TWO, then(ANY, A, ALL)))

    def test_long_sequences(self):
        tree = star(either(then(A, A, A), then(B, ANY)))
        found = machine(TWO, tree)
        dice = dice_for("long sequences of a machine")
        for many in (60, 99, 100):
            for _ in range(20):
                sequence = tuple(dice.choice(TWO) for _ in range(many))
                self.assertIs(takes(found, sequence), matches(tree, sequence))


SAME = [
    (no(both(A, star(B))), either(no(A), no(star(B)))),
    (star(either(A, B)), star(then(star(A), star(B)))),
    (then(A, star(then(B, A))), then(star(then(A, B)), A)),
    (then(either(A, EMPTY), B), either(then(A, B), B)),
    (star(star(A)), star(A)),
    (no(no(THIRD)), THIRD),
]


class Complexity(unittest.TestCase):
    def evidence(self, reads, tree):
        """The evidence, after it was checked by its definition."""
        found = complexity(reads, tree)
        self.assertIsNotNone(found, tree)
        part, firsts, tests = found
        # The part is a pattern, which contains True and False of its own.
        self.assertTrue(is_plain(found) and not has_flags(found[1:]))
        self.assertTrue(is_too_complex(reads, tree))
        self.assertIn(part, parts_of(tree))
        self.assertEqual(len(firsts), 13)
        self.assertEqual(firsts[0], ())
        self.assertEqual(list(firsts), sorted(set(firsts), key=lambda sequence: (len(sequence), sequence)))
        self.assertLessEqual(len(tests), 12)
        self.assertTrue(all(len(test) <= 60 for test in tests))
        self.assertTrue(all(symbol in reads for test in tests + firsts for symbol in test))
        results = [tuple(matches(part, first + test) for test in tests) for first in firsts]
        self.assertEqual(len(set(results)), 13)
        self.check_that_no_class_is_left_out(reads, part, firsts, dict(zip(results, firsts)), tests)
        self.check_the_parts_before(reads, tree, part)
        return found

    def check_that_no_class_is_left_out(self, reads, part, firsts, known, tests):
        ends = sequences(reads, 3 if len(reads) == 2 else 1)
        # The sequences up to the last first member, as far as they are not too many to be tried.
        for sequence in sequences(reads, 5 if len(reads) == 2 else 2):
            if (len(sequence), sequence) > (len(firsts[-1]), firsts[-1]):
                return
            like = known.get(tuple(matches(part, sequence + test) for test in tests))
            self.assertIsNotNone(like, (part, sequence))
            self.assertLessEqual((len(like), like), (len(sequence), sequence))
            for end in ends:
                self.assertIs(matches(part, sequence + end), matches(part, like + end), (part, sequence))

    def check_the_parts_before(self, reads, tree, part):
        parts = parts_of(tree)
        for earlier in parts[:parts.index(part)]:
            found = machine(reads, earlier)
            self.assertLessEqual(len(found[1]), 12)
            self.assertIsNone(complexity(reads, earlier))

    def test_example(self):
        self.assertIsNone(complexity(TWO, star(A)))

    def test_exactly_12_classes(self):
        for name, tree in WITH_12_CLASSES.items():
            with self.subTest(name):
                self.assertEqual(tree[0], name)
                self.assertLessEqual(node_count(tree), 16)
                self.assertIsNone(complexity(TWO, tree))
                found = machine(TWO, tree)
                self.assertEqual(len(found[1]), 12)
                self.assertTrue(is_least(found))
                for sequence in sequences(TWO, 8):
                    self.assertIs(takes(found, sequence), matches(tree, sequence))

    def test_exactly_13_classes(self):
        for name, tree in WITH_13_CLASSES.items():
            with self.subTest(name):
                self.assertEqual(tree[0], name)
                self.assertLessEqual(node_count(tree), 16)
                self.assertEqual(self.evidence(TWO, tree)[0], tree)

    def test_the_same_pattern_with_12_and_with_13_classes(self):
        self.assertIsNone(complexity(("Aa",), TWELVES))
        self.assertEqual(machine(("Aa",), TWELVES)[2], (0,))
        firsts = self.evidence(TWO, TWELVES)[1]
        self.assertEqual(firsts, ((), ("Aa",), ("Ba",)) + tuple(("Aa",) * many for many in range(2, 12)))

    def test_14_classes(self):
        for name, tree in WITH_14_CLASSES.items():
            with self.subTest(name):
                self.assertEqual(tree[0], name)
                self.assertEqual(self.evidence(TWO, tree)[0], tree)

    def test_13_lengths(self):
        # Somewhat more than 16 nodes: 11 symbols give 13 classes, 10 symbols give 12.
        self.assertIsNone(complexity(("Aa",), then(*[ANY] * 10)))
        self.assertEqual(len(machine(TWO, then(*[ANY] * 10))[1]), 12)
        for reads in (("Aa",), TWO):
            part, firsts, _ = self.evidence(reads, then(*[ANY] * 11))
            self.assertEqual(part, then(*[ANY] * 11))
            self.assertEqual(firsts, tuple(("Aa",) * many for many in range(13)))

    def test_12_classes_as_a_part(self):
        for name, tree in WITH_12_CLASSES.items():
            with self.subTest(name):
                self.assertIsNone(complexity(TWO, no(tree)))
                self.assertEqual(len(machine(TWO, no(tree))[1]), 12)
                self.assertIsNone(complexity(TWO, both(tree, NONE)))
                self.assertEqual(machine(TWO, either(ALL, tree)), machine(TWO, ALL))

    def test_13_classes_as_a_part(self):
        for name, tree in WITH_13_CLASSES.items():
            with self.subTest(name):
                self.assertEqual(self.evidence(TWO, no(tree))[0], tree)
                self.assertEqual(self.evidence(TWO, both(tree, NONE))[0], tree)
                self.assertEqual(self.evidence(TWO, either(ALL, tree))[0], tree)

    def test_a_part_that_is_too_complex_though_the_whole_is_not(self):
        for tree in (both(NONE, FOURTH), either(ALL, FOURTH), ("then", NONE, FOURTH), star(either(ANY, FOURTH))):
            with self.subTest(tree[0]):
                self.assertEqual(self.evidence(TWO, tree)[0], FOURTH)
        self.assertEqual(self.evidence(TWO, both(FOURTH, NONE))[0], FOURTH)

    def test_a_pattern_that_is_too_complex_though_its_parts_are_not(self):
        for tree in (FOURTH, either(then(A, ALL, A, ANY), then(ALL, A, ANY, B)), TWELVES):
            self.assertEqual(self.evidence(TWO, tree)[0], tree)
            for operand in tree[1:]:
                self.assertIsNone(complexity(TWO, operand))

    def test_the_first_of_several_parts(self):
        fifth = then(ALL, B, ANY, ANY, ANY)
        for name in ("and", "or", "then"):
            self.assertEqual(self.evidence(TWO, (name, FOURTH, fifth))[0], FOURTH)
            self.assertEqual(self.evidence(TWO, (name, fifth, FOURTH))[0], fifth)
            self.assertEqual(self.evidence(TWO, (name, no(FOURTH), fifth))[0], FOURTH)
            self.assertEqual(self.evidence(TWO, (name, A, no(fifth)))[0], fifth)

    def test_the_part_and_not_what_contains_it(self):
        self.assertEqual(self.evidence(TWO, then(A, no(TWELVES)))[0], TWELVES)
        self.assertEqual(self.evidence(TWO, star(no(star(FOURTH))))[0], FOURTH)

    def test_the_reads_decide(self):
        self.assertIsNone(complexity(("Aa",), FOURTH))
        self.assertIsNone(complexity(("Ba", "Ca"), FOURTH))
        self.assertEqual(self.evidence(TWO, FOURTH)[0], FOURTH)

    def test_first_members_of_a_pattern_with_16_classes(self):
        # After each of the beginnings of up to 3 symbols with an Aa in it, and all of 4 symbols, something else fits.
        firsts = self.evidence(TWO, FOURTH)[1]
        a, b = TWO
        self.assertEqual(firsts[:8], ((), (a,), (a, a), (a, b), (a, a, a), (a, a, b), (a, b, a), (a, b, b)))
        self.assertEqual(firsts[8:], ((a, a, a, a), (a, a, a, b), (a, a, b, a), (a, a, b, b), (a, b, a, a)))

    def test_many_more_than_13_classes(self):
        tree = then(ALL, A, ANY, ANY, ANY, ANY, ANY)
        self.assertEqual(self.evidence(TWO, tree)[0], tree)

    def test_12_symbols(self):
        tree = then(ALL, of("@B", "b"), ANY, ANY, ANY)
        part, firsts, _ = self.evidence(SEVERAL, tree)
        self.assertEqual(part, tree)
        self.assertEqual(firsts[:4], ((), ("@b",), ("@b", "@a"), ("@b", "@b")))

    def test_a_part_that_occurs_twice(self):
        self.assertIsNone(complexity(TWO, either(THIRD, THIRD)))
        thirteen = WITH_13_CLASSES["then"]
        self.assertEqual(self.evidence(TWO, either(thirteen, thirteen))[0], thirteen)
        self.assertEqual(self.evidence(TWO, both(no(thirteen), star(thirteen)))[0], thirteen)

    def test_random_patterns(self):
        dice = dice_for("evidence")
        for _ in range(300):
            tree = random_tree(dice, 16, "A", "a")
            self.assertEqual(complexity(("@a", "Ab"), tree) is not None, is_too_complex(("@a", "Ab"), tree))

    def test_random_patterns_that_are_often_too_complex(self):
        dice = dice_for("more evidence")
        complexes = 0
        for _ in range(200):
            tree = ("then", random_tree(dice, 5, "A", ""), ("then", THIRD, random_tree(dice, 4, "A", "")))
            if is_too_complex(TWO, tree):
                self.evidence(TWO, tree)
                complexes += 1
            else:
                self.assertIsNone(complexity(TWO, tree))
        self.assertGreater(complexes, 10)


class Alike(unittest.TestCase):
    def test_example(self):
        self.assertEqual(alike(TWO, star(either(A, B)), either(then(ALL, A), then(ALL, B))), ())

    def test_patterns_that_the_same_sequences_match(self):
        for first, second in SAME:
            self.assertIsNone(alike(TWO, first, second))
            self.assertIsNone(alike(("@b", "Aa", "Bz"), second, first))

    def test_the_reads_decide(self):
        self.assertIsNone(alike(("Aa",), A, ANY))
        self.assertEqual(alike(TWO, A, ANY), ("Ba",))
        self.assertIsNone(alike(("@a", "Ba"), A, NONE))

    def test_the_first_sequence_in_order(self):
        self.assertEqual(alike(TWO, then(ALL, B), then(ALL, B, B)), ("Ba",))
        self.assertEqual(alike(TWO, then(ANY, A), then(A, ANY)), ("Aa", "Ba"))
        self.assertEqual(alike(TWO, ALL, star(A)), ("Ba",))
        self.assertEqual(alike(TWO, THREES, FOURS), ("Aa",) * 3)
        self.assertEqual(alike(TWO, THREES, FIVES), ("Aa",) * 3)

    def test_parting_late(self):
        self.assertEqual(alike(("Aa",), TWELVES, EMPTY), ("Aa",) * 12)
        self.assertEqual(alike(TWO, WITH_12_CLASSES["and"], EMPTY), ("Aa",) * 12)
        self.assertEqual(alike(("Zz",), then(*[ANY] * 10), NONE), ("Zz",) * 10)

    def test_by_trying_all_sequences(self):
        dice = dice_for("alike")
        for _ in range(300):
            first, second = (random_tree(dice, dice.randint(1, 10)) for _ in range(2))
            if is_too_complex(("@a", "Ab"), first) or is_too_complex(("@a", "Ab"), second):
                continue
            tried = sequences(("@a", "Ab"), 5)
            parted = [sequence for sequence in tried if matches(first, sequence) != matches(second, sequence)]
            found = alike(("@a", "Ab"), first, second)
            if parted:
                self.assertEqual(found, parted[0])
            else:
                self.assertTrue(found is None or len(found) > 5)


class Errors(unittest.TestCase):
    def test_machine(self):
        for tree in (FOURTH, TWELVES, no(TWELVES), both(NONE, FOURTH), both(FOURTH, NONE), star(either(ALL, FOURTH))):
            with self.assertRaises(TooComplex):
                machine(TWO, tree)
        self.assertEqual(len(machine(("Aa",), TWELVES)[1]), 12)

    def test_alike_with_either_of_the_two_patterns(self):
        for first, second in ((FOURTH, A), (A, FOURTH), (FOURTH, FOURTH), (EMPTY, no(TWELVES))):
            with self.assertRaises(TooComplex):
                alike(TWO, first, second)

    def test_complexity_raises_nothing(self):
        self.assertEqual(complexity(TWO, FOURTH)[0], FOURTH)


if __name__ == "__main__":
    unittest.main()
