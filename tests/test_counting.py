"""Listing, counting and numbering documents: [161], the order of [21], excerptcheck/counting.py in the interface."""

import inspect
import itertools
import unittest

from excerptcheck.counting import document_at, documents, first_document, index_of, many, next_document
from excerptcheck.errors import NoDocument, NotOfKind, TooComplex
from excerptcheck.kinds import of_kind
from samples import (ALL, ANY, EMPTY, EVERYTHING, NONE, both, but, dice_for, either, has_flags, is_plain, no, of,
                     random_tree, sequences, star, then)

A, B = of("A"), of("B")
ENDS_WITH_B = ("a", "AB", then(ALL, B))
NOTHING = ("ab", "AB", NONE)
EMPTY_ALONE = ("ab", "AB", EMPTY)
WIDE = ("abc", "ABC", ALL)
# No two symbols of A side by side.
LONELY = ("a", "AB", no(then(ALL, A, A, ALL)))
# An even number of symbols of A, and every document ends with B.
EVEN = ("ab", "AB", then(star(either(B, then(A, star(B), A))), B))
COMPLEX = ("a", "AB", then(ALL, A, ANY, ANY, ANY))


def listed(kind, most):
    """The documents of a kind by trying all sequences."""
    reads = tuple(owner + letter for owner in kind[1] for letter in kind[0])
    return [sequence for sequence in sequences(reads, most) if of_kind(kind, sequence)]


def random_kinds(name, times):
    dice = dice_for(name)
    for _ in range(times):
        letters, owners = dice.choice([("a", "A"), ("a", "AB"), ("ab", "A"), ("ab", "BC")])
        yield dice, (letters, owners, random_tree(dice, dice.randint(1, 9)))


class Documents(unittest.TestCase):
    def test_the_example_of_the_interface(self):
        self.assertEqual(list(documents(ENDS_WITH_B, most=2)), [("Ba",), ("Aa", "Ba"), ("Ba", "Ba")])

    def test_it_is_a_generator(self):
        found = documents(EVERYTHING, most=12)
        self.assertTrue(inspect.isgenerator(found))
        self.assertIs(iter(found), found)
        self.assertEqual(next(found), ())
        self.assertEqual(next(found), ("Aa",))
        self.assertTrue(inspect.isgenerator(documents(NOTHING, most=0)))

    def test_it_hands_out_the_first_documents_at_once(self):
        # There are more than 282 billion documents.
        found = list(itertools.islice(documents(WIDE, most=12), 11))
        self.assertEqual(found[:3], [(), ("Aa",), ("Ab",)])
        self.assertEqual(found[9:], [("Cc",), ("Aa", "Aa")])
        late = ("abc", "ABC", then(star(of("C")), star(then(*[of("B", "c")] * 5))))
        found = list(itertools.islice(documents(late, most=12), 1000))
        self.assertEqual((found[0], found[4]), ((), ("Ca", "Ca")))
        self.assertEqual(next(documents(("abc", "ABC", then(*[ANY] * 8)), most=12)), ("Aa",) * 8)
        with self.assertRaises(StopIteration):
            next(documents(("abc", "ABC", both(star(then(ANY, ANY)), ANY)), most=12))

    def test_most_0(self):
        self.assertEqual(list(documents(EVERYTHING, most=0)), [()])
        self.assertEqual(list(documents(EMPTY_ALONE, most=0)), [()])
        self.assertEqual(list(documents(ENDS_WITH_B, most=0)), [])
        self.assertEqual(list(documents(NOTHING, most=0)), [])

    def test_most_12(self):
        self.assertEqual(list(documents(EVERYTHING, most=12)), sequences(("Aa", "Ba"), 12))
        self.assertEqual(list(documents(EMPTY_ALONE, most=12)), [()])
        self.assertEqual(list(documents(NOTHING, most=12)), [])
        ends = ("a", "AB", star(then(A, ANY, B, A)))
        self.assertEqual(list(documents(ends, most=12)), listed(ends, 12))
        self.assertEqual(list(documents(("z", "Q", ALL), most=12)), [("Qz",) * many for many in range(13)])

    def test_by_trying_all_sequences(self):
        for _, kind in random_kinds("documents", 80):
            found = list(documents(kind, most=5))
            self.assertEqual(found, listed(kind, 5), kind)
            self.assertTrue(is_plain(tuple(found)))

    def test_two_of_them_do_not_disturb_each_other(self):
        one, other = documents(EVERYTHING, most=3), documents(EVERYTHING, most=3)
        next(one)
        self.assertEqual(list(other), sequences(("Aa", "Ba"), 3))
        self.assertEqual(list(one), sequences(("Aa", "Ba"), 3)[1:])


class FirstDocument(unittest.TestCase):
    def test_examples(self):
        self.assertEqual(first_document(ENDS_WITH_B), ("Ba",))
        self.assertEqual(first_document(EVERYTHING), ())
        self.assertEqual(first_document(EMPTY_ALONE), ())
        self.assertIsNone(first_document(NOTHING))

    def test_a_shorter_one_comes_first_and_then_the_lesser_symbol(self):
        self.assertEqual(first_document(("a", "AB", either(then(A, A), B))), ("Ba",))
        self.assertEqual(first_document(("a", "AB", either(then(B, A), then(A, B)))), ("Aa", "Ba"))
        self.assertEqual(first_document(("ab", "AB", then(ANY, of("B"), of("", "b")))), ("Aa", "Ba", "Ab"))

    def test_long_ones(self):
        self.assertEqual(first_document(("a", "AB", then(*[B] * 8))), ("Ba",) * 8)
        # 11 and 23 symbols, and so on.
        long = then(then(*[ANY] * 3), star(then(*[ANY] * 4)))
        self.assertEqual(first_document(("z", "QR", both(long, then(ANY, ANY, star(then(*[ANY] * 3)))))), ("Qz",) * 11)

    def test_by_trying_all_sequences(self):
        for _, kind in random_kinds("first documents", 120):
            found = listed(kind, 5)
            first = first_document(kind)
            if found:
                self.assertEqual(first, found[0])
            else:
                self.assertTrue(first is None or len(first) > 5)


class NextDocument(unittest.TestCase):
    def test_the_example_of_the_interface(self):
        self.assertEqual(next_document(ENDS_WITH_B, ("Ba", "Aa"), most=3), ("Ba", "Ba"))

    def test_behind_none_is_the_first_one(self):
        self.assertEqual(next_document(ENDS_WITH_B, None, most=3), ("Ba",))
        self.assertEqual(next_document(EVERYTHING, None, most=0), ())
        self.assertEqual(next_document(EMPTY_ALONE, None, most=60), ())
        self.assertIsNone(next_document(ENDS_WITH_B, None, most=0))
        self.assertIsNone(next_document(NOTHING, None, most=60))

    def test_behind_a_document_of_the_kind(self):
        self.assertEqual(next_document(EVERYTHING, (), most=1), ("Aa",))
        self.assertEqual(next_document(EVERYTHING, ("Aa", "Ba", "Ba"), most=3), ("Ba", "Aa", "Aa"))
        self.assertEqual(next_document(LONELY, ("Aa", "Ba", "Aa"), most=3), ("Aa", "Ba", "Ba"))
        self.assertEqual(next_document(LONELY, ("Aa", "Ba", "Ba"), most=3), ("Ba", "Aa", "Ba"))

    def test_behind_a_document_that_is_not_of_the_kind(self):
        self.assertEqual(next_document(ENDS_WITH_B, (), most=3), ("Ba",))
        self.assertEqual(next_document(ENDS_WITH_B, ("Aa", "Aa"), most=3), ("Aa", "Ba"))
        self.assertEqual(next_document(LONELY, ("Aa", "Aa", "Ba", "Ba"), most=4), ("Aa", "Ba", "Aa", "Ba"))
        self.assertEqual(next_document(("a", "AB", B), ("Aa",), most=1), ("Ba",))

    def test_behind_the_last_one_of_its_length(self):
        self.assertEqual(next_document(EVERYTHING, ("Ba",) * 3, most=4), ("Aa",) * 4)
        self.assertEqual(next_document(LONELY, ("Ba",) * 3, most=60), ("Aa", "Ba", "Aa", "Ba"))
        threes = ("a", "AB", star(then(A, A, A)))
        self.assertEqual(next_document(threes, ("Aa",) * 3, most=60), ("Aa",) * 6)
        self.assertEqual(next_document(threes, ("Aa",) * 4, most=60), ("Aa",) * 6)

    def test_there_is_none_any_more(self):
        self.assertIsNone(next_document(EVERYTHING, ("Ba",) * 3, most=3))
        self.assertIsNone(next_document(EMPTY_ALONE, (), most=60))
        self.assertIsNone(next_document(EVERYTHING, ("Ba",) * 60, most=60))
        self.assertIsNone(next_document(("a", "AB", star(then(A, A, A))), ("Aa",) * 3, most=5))
        self.assertIsNone(next_document(ENDS_WITH_B, ("Ba", "Ba"), most=2))

    def test_behind_documents_that_are_longer_than_most(self):
        self.assertIsNone(next_document(EVERYTHING, ("Aa", "Aa"), most=1))
        self.assertIsNone(next_document(EVERYTHING, ("Aa",) * 100, most=60))
        self.assertIsNone(next_document(EVERYTHING, ("Aa",), most=0))

    def test_60_symbols(self):
        self.assertEqual(next_document(EVERYTHING, ("Aa",) * 59 + ("Ba",), most=60), ("Aa",) * 58 + ("Ba", "Aa"))
        self.assertEqual(next_document(EVERYTHING, ("Ba",) * 59, most=60), ("Aa",) * 60)
        self.assertEqual(next_document(WIDE, ("Cc",) * 59, most=60), ("Aa",) * 60)
        self.assertEqual(next_document(LONELY, ("Aa", "Aa") + ("Ba",) * 58, most=60), ("Aa", "Ba") * 30)

    def test_one_after_another(self):
        for _, kind in random_kinds("next documents", 50):
            document, found = None, []
            while (document := next_document(kind, document, most=4)) is not None:
                found.append(document)
            self.assertEqual(found, listed(kind, 4))

    def test_behind_every_sequence(self):
        for _, kind in random_kinds("behind every sequence", 40):
            reads = tuple(owner + letter for owner in kind[1] for letter in kind[0])
            found = listed(kind, 3)
            for sequence in sequences(reads, 4):
                behind = [one for one in found if (len(one), one) > (len(sequence), sequence)]
                self.assertEqual(next_document(kind, sequence, most=3), behind[0] if behind else None)


class Many(unittest.TestCase):
    def test_the_example_of_the_interface(self):
        self.assertEqual(many(ENDS_WITH_B, 4), 8)

    def test_no_document_the_empty_one_alone_and_every_length(self):
        for length in (0, 1, 2, 59, 60):
            self.assertEqual(many(NOTHING, length), 0)
            self.assertEqual(many(EMPTY_ALONE, length), 1 if length == 0 else 0)
            self.assertEqual(many(EVERYTHING, length), 2 ** length)
            self.assertEqual(many(WIDE, length), 9 ** length)
            self.assertEqual(many(("z", "Q", ALL), length), 1)
            self.assertFalse(has_flags(many(WIDE, length)))

    def test_no_two_side_by_side(self):
        # These numbers grow like those of Fibonacci.
        numbers = [1, 2]
        while len(numbers) < 61:
            numbers.append(numbers[-1] + numbers[-2])
        self.assertEqual([many(LONELY, length) for length in range(61)], numbers)

    def test_by_trying_all_sequences(self):
        for _, kind in random_kinds("many", 100):
            found = listed(kind, 5)
            for length in range(6):
                self.assertEqual(many(kind, length), len([one for one in found if len(one) == length]))


class Numbers(unittest.TestCase):
    def test_the_examples_of_the_interface(self):
        self.assertEqual(document_at(ENDS_WITH_B, 3, 2), ("Ba", "Aa", "Ba"))
        self.assertEqual(index_of(ENDS_WITH_B, ("Ba", "Aa", "Ba")), 2)
        with self.assertRaises(NoDocument) as caught:
            document_at(ENDS_WITH_B, 0, 0)
        self.assertEqual(caught.exception.many, 0)

    def test_by_trying_all_sequences(self):
        for _, kind in random_kinds("numbers", 60):
            found = listed(kind, 4)
            for length in range(5):
                alike = [one for one in found if len(one) == length]
                for index, document in enumerate(alike):
                    self.assertEqual(document_at(kind, length, index), document)
                    self.assertEqual(index_of(kind, document), index)
                for index in (len(alike), len(alike) + 1, 10 ** 60):
                    self.refuse(kind, length, index, len(alike))

    def refuse(self, kind, length, index, expected):
        with self.assertRaises(NoDocument) as caught:
            document_at(kind, length, index)
        self.assertEqual(caught.exception.many, expected)
        self.assertFalse(has_flags(caught.exception.many))

    def test_no_document_and_the_empty_one_alone(self):
        self.refuse(NOTHING, 0, 0, 0)
        self.refuse(NOTHING, 60, 7, 0)
        self.assertEqual(document_at(EMPTY_ALONE, 0, 0), ())
        self.assertEqual(index_of(EMPTY_ALONE, ()), 0)
        self.refuse(EMPTY_ALONE, 0, 1, 1)
        self.refuse(EMPTY_ALONE, 1, 0, 0)

    def test_60_symbols(self):
        self.assertEqual(document_at(WIDE, 60, 0), ("Aa",) * 60)
        self.assertEqual(document_at(WIDE, 60, 9 ** 60 - 1), ("Cc",) * 60)
        self.refuse(WIDE, 60, 9 ** 60, 9 ** 60)
        self.assertEqual(index_of(WIDE, ("Cc",) * 60), 9 ** 60 - 1)
        symbols = [owner + letter for owner in "ABC" for letter in "abc"]
        dice = dice_for("60 symbols")
        for _ in range(20):
            index = dice.randrange(9 ** 60)
            digits = [index // 9 ** place % 9 for place in range(59, -1, -1)]
            document = tuple(symbols[digit] for digit in digits)
            self.assertEqual(document_at(WIDE, 60, index), document)
            self.assertEqual(index_of(WIDE, document), index)

    def test_up_to_length_60_and_back(self):
        dice = dice_for("there and back")
        for kind in (LONELY, EVEN, ENDS_WITH_B, ("abc", "ABC", no(then(ALL, A, of("B"), ALL)))):
            for length in (1, 2, 17, 31, 59, 60):
                for index in (0, many(kind, length) - 1, dice.randrange(many(kind, length))):
                    document = document_at(kind, length, index)
                    self.assertEqual(len(document), length)
                    self.assertIs(of_kind(kind, document), True)
                    self.assertEqual(index_of(kind, document), index)
                    if index + 1 < many(kind, length):
                        self.assertEqual(next_document(kind, document, most=60), document_at(kind, length, index + 1))
                self.refuse(kind, length, many(kind, length), many(kind, length))

    def test_numbers_of_96_digits(self):
        found = index_of(WIDE, ("Cc",) * 100)
        self.assertEqual(found, 9 ** 100 - 1)
        self.assertEqual(len(str(found)), 96)
        self.assertEqual(index_of(WIDE, ("Aa",) * 100), 0)
        self.assertEqual(index_of(WIDE, ("Ab",) + ("Aa",) * 99), 9 ** 99)
        self.assertEqual(index_of(EVERYTHING, ("Ba",) + ("Aa",) * 98 + ("Ba",)), 2 ** 99 + 1)

    def test_sequences_that_are_not_documents_of_the_kind(self):
        for kind, sequence in ((ENDS_WITH_B, ("Ba", "Aa")), (ENDS_WITH_B, ()), (NOTHING, ()), (EMPTY_ALONE, ("Aa",)),
                               (EVERYTHING, ("Ab",)), (EVERYTHING, ("@a",)), (EVERYTHING, ("Aa", "Ba", "Zz")),
                               (LONELY, ("Ba", "Aa", "Aa")), (("a", "A", star(of("@"))), ("@a",)),
                               (EVERYTHING, ("Aa",) * 99 + ("@a",)), (ENDS_WITH_B, ("Zz", "Ba"))):
            with self.assertRaises(NotOfKind):
                index_of(kind, sequence)

    def test_the_letters_and_owners_need_not_be_neighbours(self):
        kind = ("bz", "AQ", but("", "b"))
        self.assertEqual([document_at(kind, 1, index) for index in (0, 1)], [("Az",), ("Qz",)])
        self.assertEqual(index_of(kind, ("Qz",)), 1)


class TooComplexKinds(unittest.TestCase):
    def test_all_functions_raise_it(self):
        for kind in (COMPLEX, ("a", "AB", both(NONE, COMPLEX[2]))):
            for ask in (lambda: list(documents(kind, most=0)), lambda: first_document(kind),
                        lambda: next_document(kind, None, most=3), lambda: next_document(kind, ("Aa",), most=0),
                        lambda: many(kind, 0), lambda: document_at(kind, 3, 0), lambda: index_of(kind, ("Aa",))):
                with self.assertRaises(TooComplex):
                    ask()

    def test_at_the_latest_when_the_first_document_is_asked_for(self):
        with self.assertRaises(TooComplex):
            next(documents(COMPLEX, most=12))

    def test_before_the_other_errors(self):
        with self.assertRaises(TooComplex):
            document_at(COMPLEX, 3, 10 ** 90)
        for sequence in ((), ("Zz",), ("@a",)):
            with self.assertRaises(TooComplex):
                index_of(COMPLEX, sequence)

    def test_the_owner_symbols_decide(self):
        self.assertEqual(many(("a", "A", COMPLEX[2]), 60), 1)
        self.assertEqual(list(documents(("ab", "B", COMPLEX[2]), most=12)), [])


if __name__ == "__main__":
    unittest.main()
