"""Symbols and sequences: [20] to [24] and excerptcheck/symbols.py in the interface."""

import functools
import itertools
import unittest

from excerptcheck.errors import InvalidText
from excerptcheck.symbols import decoded, encoded, owner_symbols, precedes, symbols
from samples import EVERY_SYMBOL, dice_for, is_plain, random_sequence, sequences

ALPHABETS = [(letters, owners) for letters in ("a", "z", "ab", "bx", "axz", "xyz")
             for owners in ("A", "Z", "AB", "CX", "AYZ", "XYZ")]


class Alphabets(unittest.TestCase):
    def test_examples(self):
        self.assertEqual(symbols("ab", "A"), ("@a", "@b", "Aa", "Ab"))

    def test_symbols_combine_each_letter_with_the_editor_and_each_owner(self):
        for letters, owners in ALPHABETS:
            with self.subTest((letters, owners)):
                found = symbols(letters, owners)
                self.assertEqual(set(found), {holder + letter for holder in "@" + owners for letter in letters})
                self.assertEqual(list(found), sorted(set(found)))
                self.assertTrue(is_plain(found))

    def test_owner_symbols_are_those_that_do_not_belong_to_the_editor(self):
        for letters, owners in ALPHABETS:
            with self.subTest((letters, owners)):
                found = owner_symbols(letters, owners)
                self.assertEqual(set(found), {holder + letter for holder in owners for letter in letters})
                self.assertEqual(list(found), sorted(set(found)))
                self.assertTrue(is_plain(found))

    def test_the_least_and_the_largest_alphabet(self):
        self.assertEqual(symbols("z", "Z"), ("@z", "Zz"))
        self.assertEqual(owner_symbols("z", "Z"), ("Zz",))
        of_owners = ("Aa", "Ab", "Ac", "Ba", "Bb", "Bc", "Ca", "Cb", "Cc")
        self.assertEqual(symbols("abc", "ABC"), ("@a", "@b", "@c") + of_owners)
        self.assertEqual(owner_symbols("abc", "ABC"), of_owners)

    def test_editor_symbols_precede_those_of_the_owners(self):
        self.assertTrue(precedes(("@z",), ("Aa",)))
        self.assertEqual(symbols("yz", "A")[:2], ("@y", "@z"))


class Order(unittest.TestCase):
    def test_a_shorter_sequence_precedes_a_longer_one(self):
        for mirrored in (False, True):
            self.assertIs(precedes((), ("@a",), mirrored=mirrored), True)
            self.assertIs(precedes(("Zz",), ("@a", "@a"), mirrored=mirrored), True)
            self.assertIs(precedes(("@a", "@a"), ("Zz",), mirrored=mirrored), False)
            self.assertIs(precedes(("Aa",) * 99, ("@a",) * 100, mirrored=mirrored), True)
            self.assertIs(precedes(("@a",) * 100, ("Aa",) * 99, mirrored=mirrored), False)

    def test_no_sequence_precedes_itself(self):
        for found in ((), ("Aa",), ("Aa", "Ba"), ("Bb",) * 100):
            for mirrored in (False, True):
                self.assertIs(precedes(found, tuple(list(found)), mirrored=mirrored), False)

    def test_the_first_difference_decides_in_the_order(self):
        self.assertIs(precedes(("Aa", "Bb"), ("Ab", "Ba")), True)
        self.assertIs(precedes(("Ab", "Ba"), ("Aa", "Bb")), False)
        self.assertIs(precedes(("Aa", "Ab", "Zz"), ("Aa", "Ba", "@a")), True)

    def test_the_last_difference_decides_in_the_mirrored_order(self):
        self.assertIs(precedes(("Aa", "Bb"), ("Ab", "Ba"), mirrored=True), False)
        self.assertIs(precedes(("Ab", "Ba"), ("Aa", "Bb"), mirrored=True), True)
        self.assertIs(precedes(("Zz", "Ab", "Aa"), ("@a", "Ba", "Aa"), mirrored=True), True)

    def test_the_order_is_not_mirrored_unless_it_is_asked_for(self):
        self.assertIs(precedes(("Aa", "Bb"), ("Ab", "Ba"), mirrored=False), True)
        self.assertIs(precedes(("Ab", "Ba"), ("Aa", "Bb"), mirrored=False), False)

    def test_mirrored_is_passed_by_keyword_alone(self):
        with self.assertRaises(TypeError):
            precedes((), (), True)

    def test_every_pair_of_short_sequences(self):
        found = sequences(("@b", "Aa", "Ab", "Ba"), 3)
        for first, second in itertools.product(found, repeat=2):
            self.assertIs(precedes(first, second), first_precedes(first, second))
            self.assertIs(precedes(first, second, mirrored=True), last_precedes(first, second))

    def test_sequences_of_100_symbols(self):
        dice = dice_for("long sequences")
        for _ in range(200):
            first = random_sequence(dice, EVERY_SYMBOL, 100)
            second = list(first)
            for _ in range(dice.randint(1, 3)):
                second[dice.randrange(100)] = dice.choice(EVERY_SYMBOL)
            second = tuple(second)
            self.assertIs(precedes(first, second), first_precedes(first, second))
            self.assertIs(precedes(first, second, mirrored=True), last_precedes(first, second))

    def test_all_sequences_in_both_orders(self):
        found = sequences(("Aa", "Ba"), 3)
        self.assertEqual(sorted(reversed(found), key=functools.cmp_to_key(by_order)), found)
        turned = sorted(found, key=functools.cmp_to_key(by_mirrored_order))
        self.assertEqual(turned[:7], [(), ("Aa",), ("Ba",), ("Aa", "Aa"), ("Ba", "Aa"), ("Aa", "Ba"), ("Ba", "Ba")])


def by_order(first, second):
    return -1 if precedes(first, second) else int(precedes(second, first))


def by_mirrored_order(first, second):
    return -1 if precedes(first, second, mirrored=True) else int(precedes(second, first, mirrored=True))


def first_precedes(first, second):
    if len(first) != len(second):
        return len(first) < len(second)
    places = [at for at in range(len(first)) if first[at] != second[at]]
    return bool(places) and first[places[0]] < second[places[0]]


def last_precedes(first, second):
    if len(first) != len(second):
        return len(first) < len(second)
    places = [at for at in range(len(first)) if first[at] != second[at]]
    return bool(places) and first[places[-1]] < second[places[-1]]


class Texts(unittest.TestCase):
    def test_examples(self):
        self.assertEqual(encoded(("Aa", "Ab", "@a", "Ba")), "Aab@aBa")
        self.assertEqual(decoded("AaAb"), ("Aa", "Ab"))
        self.assertEqual(decoded("Aab"), ("Aa", "Ab"))
        self.assertEqual(refused("Aa@"), 3)

    def test_the_places_of_the_document(self):
        for text, place in (("a", 0), ("AB", 1), ("A", 1), ("Aa b", 2), ("Aa@", 3)):
            with self.subTest(text):
                self.assertEqual(refused(text), place)

    def test_the_empty_text_stands_for_the_empty_sequence(self):
        self.assertEqual(decoded(""), ())
        self.assertEqual(encoded(()), "")

    def test_holders_repeated_without_need(self):
        self.assertEqual(decoded("@a@b@c"), ("@a", "@b", "@c"))
        self.assertEqual(decoded("AaAaBbBcdBe"), ("Aa", "Aa", "Bb", "Bc", "Bd", "Be"))
        self.assertEqual(encoded(decoded("AaAaBbBcdBe")), "AaaBbcde")
        self.assertEqual(encoded(decoded("@a@b@c")), "@abc")

    def test_the_canonical_text_tells_a_holder_wherever_it_differs(self):
        self.assertEqual(encoded(("Aa", "Ba", "Aa")), "AaBaAa")
        self.assertEqual(encoded(("@a", "@a", "Aa", "Aa", "@z")), "@aaAaa@z")
        self.assertEqual(encoded(("Zz",)), "Zz")

    def test_the_first_and_the_last_of_all_holders_and_letters(self):
        self.assertEqual(decoded("AazZaz@az"), ("Aa", "Az", "Za", "Zz", "@a", "@z"))
        self.assertEqual(encoded(("Aa", "Az", "Za", "Zz", "@a", "@z")), "AazZaz@az")
        self.assertEqual(decoded(encoded(EVERY_SYMBOL)), EVERY_SYMBOL)

    def test_sequences_of_100_symbols(self):
        dice = dice_for("100 symbols")
        for reads in (EVERY_SYMBOL, ("@a", "@b", "Aa"), ("Aa",)):
            for _ in range(20):
                found = random_sequence(dice, reads, 100)
                self.assertEqual(encoded(found), canonical(found))
                self.assertEqual(decoded(encoded(found)), found)
                self.assertTrue(is_plain(decoded(encoded(found))))

    def test_texts_of_200_characters(self):
        self.assertEqual(decoded("Aa" * 100), ("Aa",) * 100)
        self.assertEqual(decoded("@" + "b" * 199), ("@b",) * 199)
        self.assertEqual(decoded("A" + "ab" * 49 + "aB" + "xyz" * 33)[98:101], ("Aa", "Bx", "By"))
        self.assertEqual(encoded(decoded("@" + "b" * 199)), "@" + "b" * 199)

    def test_texts_of_200_characters_that_are_wrong(self):
        self.assertEqual(refused("A" + "a" * 198 + "B"), 200)
        self.assertEqual(refused("A" + "a" * 198 + "?"), 199)
        self.assertEqual(refused("A" + "a" * 99 + "1" + "a" * 99), 100)
        self.assertEqual(refused("a" + "Aa" * 99 + "A"), 0)
        self.assertEqual(refused("Aa" * 99 + "AA"), 199)

    def test_every_character_at_the_beginning_in_the_middle_and_at_the_end(self):
        for code in range(ord(" "), ord("~") + 1):
            character = chr(code)
            holder = character == "@" or "A" <= character <= "Z"
            letter = "a" <= character <= "z"
            with self.subTest(character):
                self.assertEqual(place_of(character + "a"), None if holder else 0)
                self.assertEqual(place_of("A" + character + "a"), None if letter else 1)
                self.assertEqual(place_of("Aa" + character + "a"), None if letter or holder else 2)
                self.assertEqual(place_of("AaB" + character), None if letter else 3)
                self.assertEqual(place_of("Aab" + character), None if letter else 4 if holder else 3)

    def test_only_the_first_wrong_character_counts(self):
        self.assertEqual(refused("A a b"), 1)
        self.assertEqual(refused("aB"), 0)
        self.assertEqual(refused("@@@"), 1)
        self.assertEqual(refused("Aa1A"), 2)

    def test_all_short_texts(self):
        for many in range(6):
            for text in map("".join, itertools.product("aAz@ ", repeat=many)):
                place = first_wrong_place(text)
                self.assertEqual(place_of(text), place, text)
                if place is None:
                    found = spelled(text)
                    self.assertEqual(decoded(text), found)
                    self.assertEqual(encoded(found), canonical(found))


def refused(text):
    """The place of the error that a text raises; a text that raises none has no such place."""
    place = place_of(text)
    if place is None:
        raise AssertionError(f"{text!r} was taken")
    if place.__class__ is not int:
        raise AssertionError(f"{place!r} is no plain integer")
    return place


def place_of(text):
    try:
        decoded(text)
    except InvalidText as error:
        return error.place
    return None


def first_wrong_place(text):
    """The length of the longest beginning with which some text of a sequence begins, None if it is one itself."""
    for many in range(len(text) + 1):
        beginning = text[:many]
        if not (stands(beginning) or stands(beginning + "a")):
            return many - 1
    return None if stands(text) else len(text)


def stands(text):
    """Whether a text stands for a sequence: it falls into pieces of a holder and one or more letters."""
    if text == "":
        return True
    return any(is_piece(text[:cut]) and stands(text[cut:]) for cut in range(2, len(text) + 1))


def is_piece(text):
    return text[0] in "AZ@" and all(letter in "az" for letter in text[1:])


def spelled(text):
    found = []
    for character in text:
        if character in "AZ@":
            holder = character
        else:
            found.append(holder + character)
    return tuple(found)


def canonical(sequence):
    pieces = []
    for holder, run in itertools.groupby(sequence, key=lambda symbol: symbol[0]):
        pieces.append(holder + "".join(symbol[1] for symbol in run))
    return "".join(pieces)


if __name__ == "__main__":
    unittest.main()
