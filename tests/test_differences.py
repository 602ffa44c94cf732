"""Where two pipelines differ: [282] and excerptcheck/differences.py in the interface."""

import unittest

from excerptcheck.cascades import pipeline_machine
from excerptcheck.differences import difference
from excerptcheck.errors import TooComplex, TooLarge
from excerptcheck.kinds import of_kind
from excerptcheck.pipelines import excerpt
from oracles import excerpt_told
from pipes import (A, B, COPYING, DROPPING, EDITOR, EIGHTS, FIVES, FOURTH, LARGE, NEVER, SEVENS, SOME, THREES, TWELVES,
                   documents_told, random_pairs, rule, symbols_of)
from samples import (ALL, ANY, EMPTY, EVERYTHING, PIPELINE, both, dice_for, either, has_flags, is_plain, of,
                     random_tree, sequences, star, then)

ONE = ("a", "A", ALL)
# The first stage puts out one symbol of five, the second one of five of those: 25 left states, or right states.
TWENTY_FIVE = ((rule(FIVES),),) * 2
MIRRORED = ((rule(after=FIVES),),) * 2


def outputs_told(pairs, length):
    """What is put out for each position of a document."""
    return [tuple(symbol for symbol, origin in pairs if origin == position) for position in range(length)]


def difference_told(kind, first, second, most):
    for document in documents_told(kind, most):
        rows = [outputs_told(excerpt_told(pipeline, document), len(document)) for pipeline in (first, second)]
        for position, (one, other) in enumerate(zip(*rows)):
            if one != other:
                return document, position
    return None


class Difference(unittest.TestCase):
    def check(self, kind, first, second, expected):
        self.assertEqual(difference(kind, first, second), expected)
        self.assertEqual(difference(kind, second, first), expected)

    def test_the_examples_of_the_interface(self):
        same = ((rule(target=B), rule(after=then(B, ALL))),)
        self.check(EVERYTHING, PIPELINE, same, None)
        self.check(EVERYTHING, PIPELINE, ((rule(target=B), rule(after=B)),), (("Aa", "Ba", "Aa"), 0))

    def test_pipelines_that_do_the_same(self):
        self.check(EVERYTHING, PIPELINE, PIPELINE, None)
        self.check(EVERYTHING, COPYING, COPYING * 3, None)
        self.check(EVERYTHING, PIPELINE, PIPELINE * 2, None)
        self.check(EVERYTHING, COPYING, ((rule(target=A), rule(target=B)),), None)
        self.check(EVERYTHING, DROPPING, ((rule(target=EDITOR),),), None)

    def test_pipelines_that_differ_only_at_documents_that_are_not_of_the_kind(self):
        only_b = ((rule(target=B),),)
        self.check(EVERYTHING, PIPELINE, only_b, (("Aa", "Ba"), 0))
        for pattern in (star(B), then(star(B), star(A)), NEVER, EMPTY, A):
            self.check(("a", "AB", pattern), PIPELINE, only_b, None)
        self.check(("a", "AB", then(ALL, A, B, A)), PIPELINE, only_b, (("Aa", "Ba", "Aa"), 0))
        self.check(("a", "AB", then(B, A, ALL, B)), PIPELINE, only_b, (("Ba", "Aa", "Ba"), 1))
        longer = ("a", "AB", both(FIVES, then(ALL, B)))
        self.check(longer, PIPELINE, only_b, (("Aa",) * 4 + ("Ba",), 3))

    def test_the_same_symbols_with_other_origins(self):
        first, last = ((rule(EMPTY),),), ((rule(after=EMPTY),),)
        self.check(ONE, first, last, (("Aa", "Aa"), 0))
        self.check(("a", "AB", either(EMPTY, ANY)), first, last, None)
        for document in sequences(("Aa",), 5):
            self.assertEqual(symbols_of(excerpt(first, document)), symbols_of(excerpt(last, document)))
        doubled = ((rule(EMPTY, output="$$"),),)
        two = ((rule(either(EMPTY, ANY)),),)
        self.check(("a", "A", then(A, A)), doubled, two, (("Aa", "Aa"), 0))

    def test_the_first_document_and_the_first_position(self):
        changed = ((rule(then(ALL, B), A, output="$a"), rule(target=A, after=then(B, ALL)), rule(target=B)),)
        self.check(EVERYTHING, PIPELINE, changed, (("Ba", "Aa"), 1))
        # The difference shows late in the document, and a document that is shorter comes first.
        late = ((rule(then(B, B)), rule(then(A, ANY, ANY))),)
        self.check(EVERYTHING, DROPPING, late, (("Ba", "Ba", "Aa"), 2))
        every = ((rule(then(ANY, ANY, ANY)), rule(EMPTY, A, then(ANY, ANY, ANY))),)
        self.check(EVERYTHING, DROPPING, every, (("Aa",) * 4, 0))

    def test_outputs_of_other_lengths_and_of_the_editor(self):
        self.check(EVERYTHING, COPYING, ((rule(output="$$"),),), (("Aa",), 0))
        self.check(EVERYTHING, COPYING, ((rule(target=B),),), (("Aa",), 0))
        self.check(EVERYTHING, ((rule(output="a$"),),), ((rule(output="$a"),),), (("Aa",), 0))
        self.check(("ab", "AB", ALL), ((rule(output="a"),),), ((rule(target=of("", "a"), output="a"), rule(output="b")),),
                   (("Ab",), 0))

    def test_a_difference_that_shows_only_in_long_documents(self):
        self.check(ONE, ((rule(both(EIGHTS, SOME)),),), DROPPING, (("Aa",) * 9, 8))
        every = ((rule(both(THREES, SOME)),), (rule(both(FIVES, SOME)),))
        self.check(ONE, every, DROPPING, (("Aa",) * 19, 18))
        self.check(("a", "A", SEVENS), every, DROPPING, (("Aa",) * 21, 18))

    def test_random_kinds_and_pipelines(self):
        dice = dice_for("differences")
        found = []
        pairs = list(random_pairs("differences", 80))
        for (kind, pipeline), (_, other) in zip(pairs, pairs[1:]):
            found.append(self.compare(kind, pipeline, other, 3))
            found.append(self.compare(kind, pipeline, self.changed(dice, pipeline), 3))
        for kind, pipeline in random_pairs("longer differences", 40, "a", "AB", 8):
            found.append(self.compare(kind, pipeline, self.changed(dice, pipeline), 6))
        self.assertGreater(found.count(None), 40)
        self.assertGreater(len(found) - found.count(None), 50)

    def changed(self, dice, pipeline):
        """A pipeline with another pattern at one place."""
        at = dice.randrange(len(pipeline))
        stage = list(pipeline[at])
        place = dice.randrange(len(stage))
        before, target, after, output = stage[place]
        tree = random_tree(dice, 3, "@AB", "a")
        stage[place] = dice.choice([(tree, target, after, output), (before, target, tree, output),
                                    (before, of(dice.choice(["", "A", "B"])), after, output),
                                    (before, target, after, output[1:])])
        return pipeline[:at] + (tuple(stage),) + pipeline[at + 1:]

    def compare(self, kind, first, second, most):
        try:
            found = difference(kind, first, second)
        except (TooComplex, TooLarge):
            return "too large"
        self.assertEqual(difference(kind, second, first), found)
        self.assertTrue(is_plain(found) and not has_flags(found))
        expected = difference_told(kind, first, second, most)
        if expected is None and found is not None:
            document, position = found
            self.assertGreater(len(document), most)
            self.assertTrue(of_kind(kind, document))
            rows = [outputs_told(excerpt_told(pipeline, document), len(document)) for pipeline in (first, second)]
            self.assertEqual([one == other for one, other in zip(*rows)][:position + 1], [True] * position + [False])
        else:
            self.assertEqual(found, expected, (kind, first, second))
        return found


class Bounds(unittest.TestCase):
    def refuse(self, kind, first, second, stage=None):
        for one, other in ((first, second), (second, first)):
            with self.assertRaises(TooLarge) as caught:
                difference(kind, one, other)
            self.assertEqual(caught.exception.stage, stage)

    def test_exactly_200_triples(self):
        self.assertEqual(len(pipeline_machine("a", "A", TWENTY_FIVE)[1]), 25)
        self.assertIsNone(difference(("a", "A", EIGHTS), TWENTY_FIVE, TWENTY_FIVE))
        self.assertEqual(difference(("a", "A", EIGHTS), TWENTY_FIVE, COPYING), (("Aa",) * 8, 1))
        self.assertEqual(difference(ONE, TWENTY_FIVE, ((rule(EIGHTS),),)), (("Aa",) * 9, 8))

    def test_exactly_201_triples(self):
        # One more state: the second pipeline knows the first symbol.
        begun = ((rule(EMPTY),),)
        self.assertEqual(len(pipeline_machine("a", "A", begun)[1]), 2)
        self.refuse(("a", "A", EIGHTS), TWENTY_FIVE, begun)
        self.assertEqual(difference(("a", "A", SEVENS), TWENTY_FIVE, begun), (("Aa",) * 28, 25))

    def test_triples_of_documents_that_are_not_of_the_kind_count(self):
        self.assertIsNone(difference(("a", "A", both(NEVER, EIGHTS)), TWENTY_FIVE, COPYING))
        self.refuse(("a", "A", both(EMPTY, THREES)), ((rule(FIVES), rule(EIGHTS)),), ((rule(SEVENS),),))

    def test_exactly_200_pairs(self):
        self.assertEqual(len(pipeline_machine("a", "A", MIRRORED)[2]), 25)
        eights = ((rule(after=EIGHTS),),)
        self.assertEqual(difference(ONE, MIRRORED, eights), (("Aa",) * 9, 0))
        self.assertEqual(difference(("a", "A", TWELVES), MIRRORED, eights), (("Aa",) * 12, 3))
        self.assertIsNone(difference(("a", "A", A), MIRRORED, eights))

    def test_exactly_201_pairs(self):
        # Behind the last symbol there is a right state of its own.
        ended = ((rule(after=EMPTY, output="$a"), rule(after=EIGHTS)),)
        self.assertEqual(len(pipeline_machine("a", "A", ended)[2]), 9)
        self.refuse(ONE, MIRRORED, ended)
        self.refuse(("a", "A", NEVER), MIRRORED, ended)

    def test_many_more(self):
        many = ((rule(FIVES), rule(EIGHTS)),)
        self.refuse(("a", "AB", TWELVES), many, ((rule(SEVENS),),))

    def test_200_states_over_several_symbols(self):
        kind = ("abc", "ABC", EIGHTS)
        self.assertIsNone(difference(kind, TWENTY_FIVE, TWENTY_FIVE))
        changed = (TWENTY_FIVE[0], (rule(FIVES, of("AB")), rule(FIVES, of("C", "ab"))))
        self.assertEqual(difference(kind, TWENTY_FIVE, changed), (("Cc",) + ("Aa",) * 7, 0))


class Errors(unittest.TestCase):
    def refuse(self, error, kind, first, second, stage=None):
        with self.assertRaises(error) as caught:
            difference(kind, first, second)
        if error is TooLarge:
            self.assertEqual(caught.exception.stage, stage)

    def test_in_their_order(self):
        complex_pipeline = ((rule(FOURTH),),)
        one, two = (LARGE,), (COPYING[0], LARGE)
        self.refuse(TooComplex, ("a", "AB", FOURTH), one, two)
        self.refuse(TooLarge, EVERYTHING, one, two, 0)
        self.refuse(TooLarge, EVERYTHING, two, one, 1)
        self.refuse(TooLarge, EVERYTHING, two, complex_pipeline, 1)
        self.refuse(TooComplex, EVERYTHING, complex_pipeline, two)
        self.refuse(TooComplex, EVERYTHING, COPYING, complex_pipeline)
        self.refuse(TooLarge, EVERYTHING, COPYING, two, 1)
        self.refuse(TooLarge, ("a", "A", EIGHTS), TWENTY_FIVE, (COPYING[0], COPYING[0], LARGE), 2)
        self.refuse(TooLarge, ("a", "A", EIGHTS), TWENTY_FIVE, ((rule(EMPTY),),), None)


if __name__ == "__main__":
    unittest.main()
