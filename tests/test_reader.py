"""Patterns and pipelines as texts: [340] to [342], [344] and excerptcheck/reader.py in the interface."""

import itertools
import unittest

from excerptcheck.errors import InvalidPattern, InvalidPipeline, TooManyNodes
from excerptcheck.pipelines import excerpt
from excerptcheck.reader import read_pattern, read_pipeline
from excerptcheck.trees import node_count
from oracles import excerpt_told
from samples import ALL, ANY, EMPTY, NONE, PIPELINE, both, but, dice_for, either, is_plain, no, of, star, then
from texts import is_class, is_pattern, random_text, tree_of, wrong_place

a, b, c, A, B, EDITOR = of("", "a"), of("", "b"), of("", "c"), of("A"), of("B"), of("@")


def place_of(text):
    """Where a text is invalid, None if it is the text of a pattern."""
    try:
        read_pattern(text)
    except InvalidPattern as error:
        return error.place
    except TooManyNodes:
        pass
    return None


def errors_of(texts):
    try:
        read_pipeline(texts)
    except InvalidPipeline as error:
        return error.errors
    return ()


class Trees(unittest.TestCase):
    def read(self, *pairs):
        for text, tree in pairs:
            self.assertEqual(read_pattern(text), tree, text)
            self.assertTrue(is_plain(read_pattern(text)))

    def test_the_examples_of_the_document(self):
        self.read(("abc", then(a, b, c)), ("a|b|c", either(a, b, c)), ("a**", star(star(a))), (".*", ALL),
                  ("a|[BA@a]*", either(a, star(of("@AB", "a")))), ("((a)(b|(c)))", then(a, either(b, c))))

    def test_symbol_classes(self):
        self.read(("a", a), ("z", of("", "z")), ("A", A), ("Z", of("Z")), ("@", EDITOR), (".", ANY), ("[]", ANY),
                  ("[^]", NONE), ("[a]", a), ("[A]", A), ("[@]", EDITOR), ("[^a]", but("", "a")), ("[^@]", but("@")),
                  ("[ba]", of("", "ab")), ("[BA@]", of("@AB")), ("[aAb@Bz]", of("@AB", "abz")),
                  ("[^zZyY@]", but("@YZ", "yz")), ("[aaa]", a), ("[AaAaA]", of("A", "a")), ("[@@b@b]", of("@", "b")),
                  ("[^ABAB]", but("AB")))

    def test_every_letter_and_every_owner(self):
        for character in "abcdefghijklmnopqrstuvwxyz":
            self.read((character, of("", character)), ("[^" + character + "]", but("", character)))
        for character in "@ABCDEFGHIJKLMNOPQRSTUVWXYZ":
            self.read((character, of(character)), ("[^" + character + "]", but(character)))
        whole = "ZYXWVUTSRQPONMLKJIHGFEDCBA@zyxwvutsrqponmlkjihgfedcba"
        self.read(("[" + whole + "]", of("@ABCDEFGHIJKLMNOPQRSTUVWXYZ", "abcdefghijklmnopqrstuvwxyz")))

    def test_the_empty_sequence(self):
        self.read(("()", EMPTY), ("(())", EMPTY), ("((()))", EMPTY), ("()*", star(EMPTY)), ("()a", then(EMPTY, a)),
                  ("a()", then(a, EMPTY)), ("()()", then(EMPTY, EMPTY)), ("()|a", either(EMPTY, a)), ("!()", no(EMPTY)))

    def test_stars(self):
        self.read(("a*", star(a)), ("a***", star(star(star(a)))), ("ab*", then(a, star(b))), ("(ab)*", star(then(a, b))),
                  ("a*b*", then(star(a), star(b))), ("(a*)*", star(star(a))), ("[ab]*", star(of("", "ab"))))

    def test_negations(self):
        self.read(("!a", no(a)), ("!!a", no(no(a))), ("!a*", no(star(a))), ("!(a*)", no(star(a))), ("(!a)*", star(no(a))),
                  ("!a**", no(star(star(a)))), ("!!a*", no(no(star(a)))), ("!ab", then(no(a), b)), ("a!b", then(a, no(b))),
                  ("!a!b", then(no(a), no(b))), ("!(ab)", no(then(a, b))), ("!a|b", either(no(a), b)),
                  ("!a&!b", both(no(a), no(b))), ("a!b*c", then(a, no(star(b)), c)), ("(!!a)*", star(no(no(a)))))

    def test_what_binds_stronger(self):
        self.read(("ab|c", either(then(a, b), c)), ("a|bc", either(a, then(b, c))), ("a&b|c", either(both(a, b), c)),
                  ("a|b&c", either(a, both(b, c))), ("ab&c", both(then(a, b), c)), ("a&bc", both(a, then(b, c))),
                  ("a|b&c|a", either(a, both(b, c), a)), ("ab*|c&a", either(then(a, star(b)), both(c, a))),
                  ("(a|b)&c", both(either(a, b), c)), ("(a|b)c", then(either(a, b), c)), ("a(b&c)", then(a, both(b, c))))

    def test_the_second_operand_contains_the_rest(self):
        self.read(("abca", then(a, b, c, a)), ("a&b&c", both(a, b, c)), ("a|b|c|a", either(a, b, c, a)),
                  ("(a|b)|c", either(either(a, b), c)), ("a|(b|c)", either(a, b, c)), ("(ab)c", then(then(a, b), c)),
                  ("a(bc)", then(a, b, c)), ("(a&b)&c", both(both(a, b), c)))

    def test_parentheses_leave_no_trace(self):
        self.read(("(a)", a), ("((((a))))", a), ("(a)(b)", then(a, b)), ("(a)*", star(a)), ("(.)", ANY), ("([a])", a))

    def test_texts_with_20_open_parentheses_and_20_signs(self):
        self.read(("(" * 20 + "a" + ")" * 20, a), ("(" * 20 + ")" * 20, EMPTY), ("(" * 19 + "()" + ")" * 19, EMPTY),
                  ("(" * 20 + "ab" + ")" * 20 + "c", then(then(a, b), c)))
        tree = a
        for many in range(1, 21):
            tree = no(tree)
            if many < 16:
                self.assertEqual(read_pattern("!" * many + "a"), tree)
            else:
                with self.assertRaises(TooManyNodes) as caught:
                    read_pattern("!" * many + "a")
                self.assertEqual(caught.exception.count, many + 1)

    def test_random_texts(self):
        dice = dice_for("texts")
        done = 0
        for _ in range(3000):
            text = random_text(dice, dice.randint(1, 14))
            if len(text) > 200:
                continue
            self.assertTrue(is_pattern(text), text)
            tree = tree_of(text)
            if node_count(tree) <= 16:
                self.assertEqual(read_pattern(text), tree, text)
                done += 1
            else:
                with self.assertRaises(TooManyNodes):
                    read_pattern(text)
        self.assertGreater(done, 2000)


class Nodes(unittest.TestCase):
    def count(self, text):
        try:
            return node_count(read_pattern(text))
        except TooManyNodes as error:
            self.assertGreater(error.count, 16)
            return error.count

    def test_16_and_17_nodes(self):
        self.assertEqual(read_pattern("abcabcab*"), then(a, b, c, a, b, c, a, star(b)))
        for text, nodes in (("abcabcab*", 16), ("abcabcab**", 17), ("a" * 8, 15), ("a" * 9, 17), ("!" * 15 + "a", 16),
                            ("!" * 16 + "a", 17), ("a" + "*" * 15, 16), ("a" + "*" * 16, 17), ("a|" * 7 + "a*", 16),
                            ("a|" * 8 + "a", 17), ("a&" * 7 + "!a", 16), ("()" * 8 + "*", 16), ("()" * 9, 17)):
            self.assertEqual(self.count(text), nodes, text)

    def test_parentheses_and_brackets_are_not_nodes(self):
        self.assertEqual(self.count("(" * 20 + "!" * 15 + "[^abcdefghijklmnopqrstuvwxyz]" + ")" * 20), 16)

    def test_texts_of_200_characters(self):
        for text, nodes in (("a" * 200, 399), ("a" + "*" * 199, 200), ("a|" * 99 + "ab", 201), ("a&" * 99 + "ab", 201),
                            ("()" * 100, 199), ("!a" * 100, 299), ("[a" + "b" * 197 + "]", 1),
                            ("(" * 20 + "a" * 160 + ")" * 20, 319)):
            self.assertEqual(len(text), 200)
            self.assertEqual(self.count(text), nodes, text)

    def test_an_invalid_text_is_invalid_however_many_nodes_it_has(self):
        self.assertEqual(place_of("a" * 199 + ")"), 199)
        self.assertEqual(place_of("a" * 198 + "|"), 199)
        self.assertEqual(place_of("!" * 20), 20)
        self.assertEqual(place_of("a|" * 100), 200)


class Places(unittest.TestCase):
    def test_the_examples_of_the_document(self):
        for text, place in (("", 0), ("a|", 2), ("a)", 1), ("(a|)", 3), ("a&*", 2), ("[a^", 2), ("!", 1)):
            self.assertEqual(place_of(text), place, text)

    def test_texts_that_end_too_early(self):
        for text in ("", "a|", "a&", "!", "!!", "(", "((", "(a", "(a|b", "((a)", "[", "[^", "[a", "[^aB@", "a!", "a|!",
                     "(!", "()(", "a*|", "ab&c|"):
            self.assertEqual(place_of(text), len(text), text)

    def test_characters_that_nothing_can_continue_with(self):
        for text, place in (("*", 0), ("|", 0), ("&a", 0), (")", 0), ("]", 0), ("^", 0), ("$", 0), (" ", 0), ("a b", 1),
                            ("a^", 1), ("a]", 1), ("1", 0), ("a1", 1), ("(*", 1), ("(|", 1), ("(&a)", 1), ("!*", 1),
                            ("!)", 1), ("!|", 1), ("(!)", 2), ("a||b", 2), ("a|&b", 2), ("a&&b", 2), ("a|*", 2), ("a|)", 2),
                            ("())", 2), ("a())", 3), ("(a))", 3), ("[[", 1), ("[.]", 1), ("[]]", 2), ("[^^]", 2), ("[a*]", 2),
                            ("[a b]", 2), ("[a-z]", 2), ("[a(", 2), ("[!a]", 1), ("a{", 1), ("~", 0), ("a\"", 1), ("$a", 0),
                            ("(a|)", 3), ("(a&)", 3), ("[^]^", 3), ("..,", 2), ("@0", 1), ("`", 0), ("[Z[", 2), ("{", 0)):
            self.assertEqual(place_of(text), place, text)

    def test_every_short_text(self):
        valid = 0
        for many in range(5):
            for characters in itertools.product("aB@.|&!*()[]^", repeat=many):
                text = "".join(characters)
                place = wrong_place(text, is_pattern)
                self.assertEqual(place_of(text), place, text)
                if place is None:
                    valid += 1
                    self.assertEqual(read_pattern(text), tree_of(text), text)
        self.assertGreater(valid, 1500)

    def test_longer_texts_with_a_wrong_character(self):
        dice = dice_for("wrong texts")
        wrong = 0
        for _ in range(2000):
            text = list(random_text(dice, dice.randint(1, 8)))[:40]
            for _ in range(dice.randint(1, 2)):
                at = dice.randrange(len(text) + 1)
                text[at:at + dice.randint(0, 1)] = dice.choice(["", "a", "*", "|", "&", "!", "(", ")", "[", "]", "^", " ", "$"])
            text = "".join(text)
            if text.count("(") < 6:
                place = wrong_place(text, is_pattern)
                self.assertEqual(place_of(text), place, text)
                wrong += place is not None
        self.assertGreater(wrong, 500)


def one(before="a", target="a", after="a", output="$"):
    """A pipeline of one rule with these texts."""
    return (((before, target, after, output),),)


class Pipelines(unittest.TestCase):
    def test_the_examples_of_the_document(self):
        texts = (((".*", "A", "B.*", "$"), (".*", "B", ".*", "$")),)
        self.assertEqual(read_pipeline(texts), PIPELINE)
        self.assertEqual(errors_of(one("a", "ab", "(", "$B")), ((0, 0, 1, 1), (0, 0, 2, 1), (0, 0, 3, 1)))
        for text, place in (("ab", 1), ("(a)", 0), ("[a", 2), ("[a]*", 3)):
            self.assertEqual(errors_of(one(target=text)), ((0, 0, 1, place),))
        pipeline = read_pipeline(texts)
        document = ("Aa", "Ba", "Ba", "Aa")
        self.assertEqual(excerpt(pipeline, document), excerpt_told(PIPELINE, document))

    def test_stages_and_rules_in_their_order(self):
        texts = ((("a", "b", "c", ""), ("()", ".", "!a", "a$b")), (("A", "[^]", "A|B", "zzz"),), ((".", "@", ".", "$$$"),) * 3)
        self.assertEqual(read_pipeline(texts), (
            ((a, b, c, ""), (EMPTY, ANY, no(a), "a$b")), ((A, NONE, either(A, B), "zzz"),), ((ANY, EDITOR, ANY, "$$$"),) * 3))
        self.assertTrue(is_plain(read_pipeline(texts)))

    def test_targets(self):
        for text, tree in ((".", ANY), ("a", a), ("B", B), ("@", EDITOR), ("[]", ANY), ("[^]", NONE), ("[bA@a]", of("@A", "ab"))):
            self.assertEqual(read_pipeline(one(target=text))[0][0][1], tree)
        for text, place in (("", 0), ("()", 0), ("!a", 0), ("*", 0), ("a*", 1), ("a|b", 1), ("..", 1), ("[", 1), ("[^", 2),
                            ("[]]", 2), ("[^^", 2), ("[a^", 2), ("[*]", 1), ("]", 0), ("^", 0), ("$", 0), (" a", 0), ("a ", 1),
                            ("[ab][", 4), ("A@", 1), ("(", 0), ("[abc", 4), ("[a b]", 2)):
            self.assertEqual(errors_of(one(target=text)), ((0, 0, 1, place),), text)

    def test_every_short_target(self):
        for many in range(5):
            for characters in itertools.product("aB@.[]^*(", repeat=many):
                text = "".join(characters)
                place = wrong_place(text, is_class)
                self.assertEqual(errors_of(one(target=text)), () if place is None else ((0, 0, 1, place),), text)

    def test_outputs(self):
        for text in ("", "$", "a", "z", "$$", "$$$", "abc", "a$b", "zzz", "$a"):
            self.assertEqual(read_pipeline(one(output=text))[0][0][3], text)
        for text, place in (("A", 0), ("@", 0), (" ", 0), ("*", 0), ("$A", 1), ("a ", 1), ("ab.", 2), ("$$@", 2), ("1", 0),
                            ("AAA", 0), ("aAA", 1), ("abcd", 3), ("$$$$", 3), ("abcA", 3), ("abc" * 60, 3), ("abA$", 2),
                            ("aB  ", 1), ("Aabc", 0), ("$$$@", 3), ("abc ", 3), ("`", 0), ("{", 0)):
            self.assertEqual(errors_of(one(output=text)), ((0, 0, 3, place),), text)

    def test_patterns_that_are_wrong(self):
        for text, place in (("", 0), ("a|", 2), ("a)", 1), ("(a|)", 3), ("a&*", 2), ("[a^", 2), ("!", 1)):
            self.assertEqual(errors_of(one(before=text)), ((0, 0, 0, place),))
            self.assertEqual(errors_of(one(after=text)), ((0, 0, 2, place),))

    def test_trees_of_more_than_16_nodes(self):
        sixteen, seventeen = "abcabcab*", "abcabcab**"
        self.assertEqual(node_count(read_pipeline(one(before=sixteen, after=sixteen))[0][0][0]), 16)
        self.assertEqual(errors_of(one(before=seventeen)), ((0, 0, 0, None),))
        self.assertEqual(errors_of(one(after="a" * 200)), ((0, 0, 2, None),))
        self.assertEqual(errors_of(one(before=seventeen + "|", after=seventeen)), ((0, 0, 0, 11), (0, 0, 2, None)))

    def test_several_errors_in_their_order(self):
        texts = ((("(", "a", "a", "$"), ("a", "aa", ")", "Q")),
                 (("a" * 20, "[a", "!" * 20, "$$$$"), ("a", "a", "a", "a"), ("", "", "", "@")),
                 (("a", "a", "a", "$"), ("a", "(", "a", "ab")))
        self.assertEqual(errors_of(texts), (
            (0, 0, 0, 1), (0, 1, 1, 1), (0, 1, 2, 0), (0, 1, 3, 0),
            (1, 0, 0, None), (1, 0, 1, 2), (1, 0, 2, 20), (1, 0, 3, 3), (1, 2, 0, 0), (1, 2, 1, 0), (1, 2, 2, 0), (1, 2, 3, 0),
            (2, 1, 1, 0)))

    def test_one_error_for_each_text_at_most(self):
        for found in (errors_of(one("((*", "[[[", "a||*", "ABC")), errors_of((one("", "", "", "AAAA")[0] * 3,) * 3)):
            places = [error[:3] for error in found]
            self.assertEqual(places, sorted(set(places)))
        self.assertEqual(len(errors_of((one("", "", "", "AAAA")[0] * 3,) * 3)), 36)


if __name__ == "__main__":
    unittest.main()
