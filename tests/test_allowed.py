"""Allowed documents and sources: [280], [281] and excerptcheck/allowed.py in the interface."""

import unittest

from excerptcheck.acceptors import accepts, minimal
from excerptcheck.allowed import allowed, first_source
from excerptcheck.cascades import pipeline_machine
from excerptcheck.errors import TooComplex, TooLarge
from excerptcheck.graphs import graph
from excerptcheck.kinds import kind_machine, of_kind
from excerptcheck.machines import machine
from excerptcheck.matching import matches
from excerptcheck.pipelines import excerpt
from oracles import excerpt_told, is_least, put_out, state_after
from pipes import (A, B, COPYING, DROPPING, EDITOR, EIGHTS, FIVES, FOURTH, LARGE, NEVER, SEVENS, SOME, TWELVES,
                   excerpts_told, random_pairs, rule, symbols_of, symbols_told)
from samples import (ALL, ANY, EMPTY, EVERYTHING, PIPELINE, both, dice_for, either, fits, has_flags, is_plain, no, of,
                     random_sequence, random_tree, sequences, star, then)

TWO = ("Aa", "Ba")
MARKING = ((rule(output="$a"),),)
SWAPPING = ((rule(then(ALL, B), output="a$"), rule(after=then(B, ALL), output="$$"), rule(target=B)),)
# One symbol is put out for every five, and the pattern counts five of them again.
TWENTY_FIVE = ((rule(FIVES),),)


def list_count(kind, pipeline, tree):
    """How many lists of [280] there are, each found from a whole document."""
    inner, acceptor = pipeline_machine(kind[0], kind[1], pipeline), kind_machine(kind)
    outer = machine(tuple(sorted(holder + letter for holder in "@" + kind[1] for letter in kind[0])), tree)
    # For each right state a sequence that has it, found by trying sequences one behind the other.
    tails = {}
    for tail in (found for most in range(60) for found in sequences_of_length(inner[0], most)):
        tails.setdefault(state_after((inner[0], inner[2], ()), tail[::-1]), tail)
        if len(tails) == len(inner[2]):
            break

    def list_of(document):
        found = []
        for right in range(len(inner[2])):
            outputs = put_out(inner, document + tails[right])[:len(document)]
            found.append(state_after(outer, [symbol for output in outputs for symbol in output]))
        return (state_after(acceptor, document), state_after((inner[0], inner[1], ()), document), tuple(found))

    met = {list_of(()): ()}
    layer = [()]
    while layer:
        longer = [document + (symbol,) for document in layer for symbol in inner[0]]
        layer = [document for document in longer if met.setdefault(list_of(document), document) is document]
    return len(met)


def sequences_of_length(reads, length):
    if len(reads) == 1:
        return [tuple(reads) * length]
    return [found for found in sequences(reads, length) if len(found) == length] if length < 7 else []


class Allowed(unittest.TestCase):
    def test_the_example_of_the_interface(self):
        self.assertEqual(allowed(EVERYTHING, PIPELINE, star(B)), (TWO, ((1, 0), (1, 2), (2, 2)), (0, 1)))

    def test_nothing_and_everything(self):
        nothing, everything = (TWO, ((0, 0),), ()), (TWO, ((0, 0),), (0,))
        self.assertEqual(allowed(EVERYTHING, PIPELINE, NEVER), nothing)
        self.assertEqual(allowed(EVERYTHING, PIPELINE, ALL), everything)
        self.assertEqual(allowed(("a", "AB", NEVER), PIPELINE, ALL), nothing)
        self.assertEqual(allowed(("a", "AB", both(A, B)), COPYING, ALL), nothing)
        self.assertEqual(allowed(EVERYTHING, DROPPING, EMPTY), everything)
        self.assertEqual(allowed(EVERYTHING, COPYING, then(ALL, EDITOR, ALL)), nothing)

    def test_the_allowed_documents_of_copies_are_those_that_match(self):
        for tree in (star(B), then(ALL, A), no(then(ALL, A, A, ALL)), THREE_OR_FOUR, EMPTY):
            self.assertEqual(allowed(EVERYTHING, COPYING, tree), machine(TWO, tree))
            self.assertEqual(allowed(("a", "AB", tree), COPYING, ALL), machine(TWO, tree))
            self.assertEqual(allowed(("a", "AB", tree), COPYING, tree), machine(TWO, tree))

    def test_symbols_of_the_editor(self):
        self.assertEqual(allowed(EVERYTHING, MARKING, star(then(A, EDITOR))), machine(TWO, star(A)))
        self.assertEqual(allowed(EVERYTHING, MARKING, then(ANY, ANY, ANY, ANY)), machine(TWO, then(ANY, ANY)))

    def test_the_symbols_of_the_alphabet_alone_are_read(self):
        found = allowed(("ab", "Q", ALL), COPYING, then(ALL, of("", "b")))
        self.assertEqual(found, (("Qa", "Qb"), ((0, 1), (0, 1)), (1,)))

    def test_what_stands_behind_decides(self):
        # Symbols of A are put out only if the document ends with B.
        late = ((rule(target=A, after=then(ALL, B)),),)
        found = allowed(EVERYTHING, late, EMPTY)
        self.assertEqual(found, minimal(found))
        for document in sequences(TWO, 6):
            self.assertIs(accepts(found, document), not ("Aa" in document and document[-1] == "Ba"))

    def test_random_kinds_pipelines_and_patterns(self):
        dice = dice_for("allowed")
        done = 0
        for kind, pipeline in random_pairs("allowed", 80):
            for _ in range(2):
                tree = random_tree(dice, dice.randint(1, 6), "@" + kind[1], kind[0])
                done += self.check(kind, pipeline, tree, 3)
        for kind, pipeline in random_pairs("allowed longer", 60, "a", "AB", 9):
            tree = random_tree(dice, dice.randint(3, 9))
            done += self.check(kind, pipeline, either(tree, no(ALL)), 7)
        self.assertGreater(done, 150)

    def check(self, kind, pipeline, tree, most):
        try:
            found = allowed(kind, pipeline, tree)
        except (TooComplex, TooLarge):
            return False
        self.assertTrue(is_plain(found) and not has_flags(found))
        self.assertEqual(found[0], symbols_told(kind))
        self.assertTrue(is_least(found))
        for document in sequences(found[0], most):
            good = of_kind(kind, document) and matches(tree, symbols_of(excerpt(pipeline, document)))
            self.assertIs(accepts(found, document), good, (kind, pipeline, tree, document))
        return True

    def test_as_the_words_say_without_the_program(self):
        dice = dice_for("allowed word by word")
        for kind, pipeline in random_pairs("allowed word by word", 25, "a", "AB", 6):
            tree = random_tree(dice, dice.randint(1, 4), "@AB", "a")
            found = allowed(kind, pipeline, tree)
            good = [document for document, symbols in excerpts_told(kind, pipeline, 5) if fits(tree, symbols)]
            self.assertEqual([document for document in sequences(TWO, 5) if accepts(found, document)], good)


THREE_OR_FOUR = either(then(A, B, A), then(B, B, B, B))


class Bounds(unittest.TestCase):
    def refuse(self, kind, pipeline, tree):
        with self.assertRaises(TooLarge) as caught:
            allowed(kind, pipeline, tree)
        self.assertIsNone(caught.exception.stage)
        self.assertGreater(list_count(kind, pipeline, tree), 200)

    def accept(self, count, kind, pipeline, tree):
        allowed(kind, pipeline, tree)
        self.assertEqual(list_count(kind, pipeline, tree), count)

    def test_exactly_200_lists(self):
        for owners in ("A", "AB"):
            self.accept(200, ("a", owners, EIGHTS), TWENTY_FIVE, FIVES)
        # The state of the kind and the left state alone are 40, the classes 5 more.
        self.accept(40, ("a", "A", EIGHTS), TWENTY_FIVE, ALL)

    def test_exactly_201_lists(self):
        # Before the first symbol nothing is put out, and never again afterwards.
        self.refuse(("a", "A", EIGHTS), TWENTY_FIVE, both(FIVES, SOME))
        self.assertEqual(list_count(("a", "A", EIGHTS), TWENTY_FIVE, both(FIVES, SOME)), 201)

    def test_right_states_count(self):
        # There is a class for each of the five right states. Before the fifth symbol, some of them have put out nothing.
        after = ((rule(after=FIVES),),)
        self.accept(200, ("a", "A", EIGHTS), after, FIVES)
        self.assertEqual(list_count(("a", "A", EIGHTS), after, both(FIVES, SOME)), 205)
        self.refuse(("a", "A", EIGHTS), after, both(FIVES, SOME))

    def test_lists_of_documents_that_are_not_of_the_kind_count_too(self):
        nothing = ("a", "A", both(NEVER, EIGHTS))
        self.assertEqual(allowed(nothing, TWENTY_FIVE, FIVES)[2], ())
        pipeline = ((rule(FIVES), rule(EIGHTS)),)
        self.refuse(("a", "A", NEVER), pipeline, SEVENS)

    def test_lists_count_before_the_acceptor_is_made_least(self):
        self.refuse(("a", "A", EIGHTS), TWENTY_FIVE, both(SOME, FIVES))
        self.accept(5, ("a", "A", ALL), TWENTY_FIVE, ALL)


class Sources(unittest.TestCase):
    def test_the_examples_of_the_interface(self):
        self.assertEqual(first_source(EVERYTHING, PIPELINE, ("Ba", "Aa", "Ba")), ("Ba", "Aa", "Ba"))
        self.assertIsNone(first_source(EVERYTHING, PIPELINE, ("Aa",)))

    def test_the_empty_sequence(self):
        self.assertEqual(first_source(EVERYTHING, PIPELINE, ()), ())
        self.assertEqual(first_source(("a", "AB", SOME), PIPELINE, ()), ("Aa",))
        self.assertEqual(first_source(("a", "AB", then(A, A, A)), PIPELINE, ()), ("Aa", "Aa", "Aa"))
        self.assertIsNone(first_source(("a", "AB", then(ALL, B)), PIPELINE, ()))
        self.assertIsNone(first_source(("a", "AB", NEVER), PIPELINE, ()))

    def test_symbols_of_no_alphabet(self):
        for sequence in (("Zz",), ("Ba", "Zz"), ("Ab",), ("@a",), ("Ba", "Bb"), ("Ca", "Ba")):
            self.assertIsNone(first_source(EVERYTHING, PIPELINE, sequence))

    def test_symbols_of_the_editor(self):
        self.assertEqual(first_source(EVERYTHING, MARKING, ("Ba", "@a", "Aa", "@a")), ("Ba", "Aa"))
        self.assertIsNone(first_source(EVERYTHING, MARKING, ("Ba", "@a", "Aa")))
        self.assertIsNone(first_source(EVERYTHING, MARKING, ("@a",)))

    def test_outputs_must_fit_as_a_whole(self):
        doubling = ((rule(output="$$"),),)
        self.assertEqual(first_source(EVERYTHING, doubling, ("Aa",) * 4), ("Aa", "Aa"))
        self.assertIsNone(first_source(EVERYTHING, doubling, ("Aa",) * 3))
        self.assertIsNone(first_source(EVERYTHING, doubling, ("Aa", "Ba")))

    def test_the_first_of_several_sources(self):
        only_b = ((rule(target=B),),)
        self.assertEqual(first_source(("ab", "AB", ALL), only_b, ("Bb",)), ("Bb",))
        self.assertEqual(first_source(("ab", "AB", then(ANY, ANY)), only_b, ("Bb",)), ("Aa", "Bb"))
        self.assertEqual(first_source(("ab", "AB", then(ANY, ANY, ANY)), only_b, ("Ba", "Ba")), ("Aa", "Ba", "Ba"))

    def test_origins_do_not_count(self):
        doubling = ((rule(EMPTY, output="$$"), rule(SOME, A, output=""), rule()),)
        self.assertEqual(first_source(EVERYTHING, doubling, ("Aa", "Aa")), ("Aa",))
        self.assertEqual(first_source(("a", "AB", then(ANY, ANY)), doubling, ("Ba", "Ba")), ("Ba", "Aa"))

    def test_documents_that_are_longer_than_their_excerpts(self):
        tenth = ("a", "A", star(then(*[ANY] * 5)))
        self.assertEqual(first_source(tenth, TWENTY_FIVE, ("Aa",) * 100), ("Aa",) * 500)
        self.assertEqual(first_source(("a", "A", EIGHTS), TWENTY_FIVE, ("Aa",) * 8), ("Aa",) * 40)
        self.assertIsNone(first_source(("a", "A", EIGHTS), TWENTY_FIVE, ("Aa",) * 9 + ("Ba",)))

    def test_excerpts_of_100_symbols(self):
        sequence = ("Aa", "Ba") * 50
        self.assertEqual(first_source(EVERYTHING, PIPELINE, sequence), sequence)
        self.assertIsNone(first_source(EVERYTHING, PIPELINE, ("Aa",) * 100))
        self.assertEqual(first_source(EVERYTHING, PIPELINE, ("Ba",) * 100), ("Ba",) * 100)

    def test_random_kinds_and_pipelines(self):
        dice = dice_for("sources")
        missing = 0
        for kind, pipeline in random_pairs("sources", 100):
            told = excerpts_told(kind, pipeline, 3)
            firsts = {}
            for document, symbols in told:
                firsts.setdefault(symbols, document)
            for symbols, document in firsts.items():
                self.assertEqual(first_source(kind, pipeline, symbols), document)
            for _ in range(4):
                reads = dice.choice([symbols_told(kind), ("@a", "@b") + symbols_told(kind)])
                sequence = random_sequence(dice, reads, dice.randint(0, 4))
                if sequence not in firsts:
                    missing += self.check_other(kind, pipeline, sequence)
        self.assertGreater(missing, 30)

    def check_other(self, kind, pipeline, sequence):
        """A sequence that no document of at most three symbols has as its excerpt."""
        found = first_source(kind, pipeline, sequence)
        if found is None:
            return True
        self.assertTrue(is_plain(found))
        self.assertGreater(len(found), 3)
        self.assertTrue(fits(kind[2], found))
        self.assertEqual(symbols_of(excerpt_told(pipeline, found)), sequence)
        return False

    def test_what_is_told_is_a_source_of_longer_excerpts(self):
        for kind, pipeline in random_pairs("longer sources", 40, "a", "AB", 8):
            reads = symbols_told(kind)
            for document in (reads * 4, reads[::-1] * 3, reads[:1] * 5 + reads[1:] * 4):
                if of_kind(kind, document):
                    symbols = symbols_of(excerpt(pipeline, document))
                    found = first_source(kind, pipeline, symbols)
                    self.assertEqual(symbols_of(excerpt(pipeline, found)), symbols)
                    self.assertTrue(of_kind(kind, found))
                    self.assertLessEqual((len(found), found), (len(document), document))

    def test_swapped_documents(self):
        for document in sequences(TWO, 5):
            symbols = symbols_of(excerpt_told(SWAPPING, document))
            found = first_source(EVERYTHING, SWAPPING, symbols)
            firsts = [other for other in sequences(TWO, 5) if symbols_of(excerpt_told(SWAPPING, other)) == symbols]
            self.assertEqual(found, firsts[0])


class Errors(unittest.TestCase):
    def refuse(self, error, kind, pipeline, tree, stage=None):
        with self.assertRaises(error) as caught:
            allowed(kind, pipeline, tree)
        if error is TooLarge:
            self.assertEqual(caught.exception.stage, stage)

    def test_allowed_in_their_order(self):
        too_many = both(FIVES, SOME)
        self.refuse(TooComplex, ("a", "AB", FOURTH), (LARGE,), FOURTH)
        self.refuse(TooLarge, ("a", "AB", EIGHTS), (LARGE,), FOURTH, 0)
        self.refuse(TooLarge, ("a", "AB", EIGHTS), (COPYING[0], LARGE), too_many, 1)
        self.refuse(TooComplex, ("a", "AB", EIGHTS), ((rule(FOURTH),),), too_many)
        self.refuse(TooComplex, ("a", "AB", EIGHTS), ((rule(FIVES), rule(EIGHTS)),), FOURTH)
        self.refuse(TooLarge, ("a", "AB", EIGHTS), TWENTY_FIVE, too_many, None)

    def test_the_pattern_counts_over_all_symbols_of_the_alphabet(self):
        late = then(ALL, EDITOR, ANY, ANY, ANY)
        self.refuse(TooComplex, EVERYTHING, PIPELINE, late)
        self.assertEqual(allowed(("a", "AB", late), PIPELINE, ALL)[2], ())

    def test_allowed_does_not_ask_for_the_graph(self):
        kind, pipeline = ("a", "AB", TWELVES), ((rule(after=FIVES), rule(after=SEVENS)),)
        with self.assertRaises(TooLarge):
            graph(kind, pipeline)
        self.assertEqual(allowed(kind, pipeline, ALL), kind_machine(kind))

    def test_sources_raise_what_graph_raises(self):
        for error, kind, pipeline, stage in (
                (TooComplex, ("a", "AB", FOURTH), (LARGE,), None), (TooLarge, EVERYTHING, (LARGE,), 0),
                (TooLarge, ("a", "AB", NEVER), (COPYING[0], LARGE), 1), (TooComplex, EVERYTHING, ((rule(FOURTH),),), None),
                (TooLarge, ("a", "AB", TWELVES), ((rule(FIVES), rule(SEVENS)),), None)):
            for sequence in ((), ("Zz",)):
                with self.assertRaises(error) as caught:
                    first_source(kind, pipeline, sequence)
                if error is TooLarge:
                    self.assertEqual(caught.exception.stage, stage)


if __name__ == "__main__":
    unittest.main()
