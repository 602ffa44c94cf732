"""Greatest shares, greatest sums and holders: [260] to [262] and excerptcheck/shares.py in the interface."""

import unittest
from fractions import Fraction

from excerptcheck.errors import TooComplex, TooLarge
from excerptcheck.graphs import graph
from excerptcheck.shares import greatest_share, greatest_sum, holders_of
from oracles import excerpt_told
from pipes import (A, B, COPYING, DROPPING, EDITOR, FIVES, FOURTH, LARGE, NEVER, SEVENS, SOME, TWELVES, excerpts_told,
                   random_pairs, rule, symbols_of)
from samples import (ALL, ANY, EMPTY, EVERYTHING, PIPELINE, both, dice_for, either, fits, has_flags, is_plain, of, star,
                     then)

LED = ("a", "AB", then(B, star(A)))
MARKING = ((rule(output="$a"),),)


def excerpt_of(pipeline, document):
    return symbols_of(excerpt_told(pipeline, document))


def numbers(holders, symbols):
    """How many symbols there are, and how many of them belong to the holders."""
    return len(symbols), len([symbol for symbol in symbols if symbol[0] in holders])


def added(prices, symbols):
    return sum(dict(prices).get(symbol[0], 0) for symbol in symbols)


class Looping(unittest.TestCase):
    """What [260] and [261] say of head, loop and tail."""

    def check_loop(self, kind, pipeline, paths, measure):
        """The constant difference by which `measure` of the excerpt grows with every further loop."""
        head, loop, tail = paths
        points = len(graph(kind, pipeline)[0])
        for path in paths:
            self.assertLessEqual(len(path), points)
        found = []
        for many in range(4):
            document = head + loop * many + tail
            self.assertTrue(fits(kind[2], document), (kind, document))
            found.append(measure(excerpt_of(pipeline, document)))
        steps = {tuple(after - before for before, after in zip(one, other)) for one, other in zip(found, found[1:])}
        self.assertEqual(len(steps), 1)
        return steps.pop()


class GreatestShare(Looping):
    def test_the_examples_of_the_document(self):
        self.assertEqual(greatest_share(EVERYTHING, PIPELINE, "A"), ("met", 1, 2, ("Aa", "Ba")))
        found = greatest_share(("a", "AB", then(B, star(A))), COPYING, "A")
        self.assertEqual(found[:3], ("neared", 1, 1))
        self.assertEqual(self.check_loop(LED, COPYING, found[3:], lambda symbols: numbers("A", symbols)), (1, 1))

    def test_all_excerpts_are_empty(self):
        self.assertEqual(greatest_share(EVERYTHING, DROPPING, "AB"), ("none",))
        self.assertEqual(greatest_share(("a", "AB", EMPTY), COPYING, "A"), ("none",))
        self.assertEqual(greatest_share(("a", "AB", star(A)), PIPELINE, "A"), ("none",))

    def test_kinds_without_a_document(self):
        self.assertEqual(greatest_share(("a", "AB", NEVER), COPYING, "A"), ("none",))
        self.assertEqual(greatest_share(("a", "AB", both(A, B)), PIPELINE, "@ABZ"), ("none",))

    def test_a_share_of_0(self):
        self.assertEqual(greatest_share(("a", "AB", star(B)), COPYING, "A"), ("met", 0, 1, ("Ba",)))
        self.assertEqual(greatest_share(("a", "AB", then(A, A, star(B))), PIPELINE, "@"), ("met", 0, 1, ("Aa", "Aa", "Ba")))

    def test_holders_that_occur_in_no_excerpt(self):
        for holders in ("Z", "QXYZ", "@", "@Q"):
            self.assertEqual(greatest_share(EVERYTHING, PIPELINE, holders), ("met", 0, 1, ("Ba",)))
        self.assertEqual(greatest_share(EVERYTHING, PIPELINE, "AQ"), ("met", 1, 2, ("Aa", "Ba")))

    def test_the_share_1(self):
        self.assertEqual(greatest_share(EVERYTHING, PIPELINE, "B"), ("met", 1, 1, ("Ba",)))
        self.assertEqual(greatest_share(EVERYTHING, PIPELINE, "@AB"), ("met", 1, 1, ("Ba",)))
        self.assertEqual(greatest_share(EVERYTHING, PIPELINE, "ABYZ"), ("met", 1, 1, ("Ba",)))

    def test_the_editor(self):
        self.assertEqual(greatest_share(EVERYTHING, MARKING, "@"), ("met", 1, 2, ("Aa",)))
        self.assertEqual(greatest_share(EVERYTHING, MARKING, "@A"), ("met", 1, 1, ("Aa",)))
        self.assertEqual(greatest_share(EVERYTHING, MARKING, "@B"), ("met", 1, 1, ("Ba",)))

    def test_in_lowest_terms(self):
        six = ("a", "AB", then(A, A, B, B, B, B))
        self.assertEqual(greatest_share(six, COPYING, "A"), ("met", 1, 3, ("Aa", "Aa", "Ba", "Ba", "Ba", "Ba")))
        self.assertEqual(greatest_share(six, COPYING, "B")[:3], ("met", 2, 3))

    def test_the_first_document_with_the_greatest_share(self):
        kind = ("ab", "AB", either(then(of("", "b"), of("", "a")), then(of("A"), of("B"), of("A"), of("B"))))
        self.assertEqual(greatest_share(kind, COPYING, "A"), ("met", 1, 1, ("Ab", "Aa")))
        late = ("a", "AB", then(ANY, ANY, ANY))
        self.assertEqual(greatest_share(late, PIPELINE, "A"), ("met", 1, 2, ("Aa", "Aa", "Ba")))
        # The empty excerpts of earlier documents have no share.
        self.assertEqual(greatest_share(EVERYTHING, ((rule(SOME, A),),), "A"), ("met", 1, 1, ("Aa", "Aa")))

    def test_shares_that_are_only_neared(self):
        measure = (lambda symbols: numbers("A", symbols))
        for kind, share in ((LED, (1, 1)), (("a", "AB", then(star(A), B)), (1, 1)),
                            (("a", "AB", then(B, star(then(A, A, B)))), (2, 3)),
                            (("a", "AB", then(B, B, star(then(B, A)))), (1, 2))):
            found = greatest_share(kind, COPYING, "A")
            self.assertEqual((found[0], found[1:3]), ("neared", share))
            size, chosen = self.check_loop(kind, COPYING, found[3:], measure)
            self.assertEqual(Fraction(chosen, size), Fraction(*share))

    def test_random_kinds_and_pipelines(self):
        dice = dice_for("shares of pipelines")
        forms = []
        for kind, pipeline in random_pairs("shares of pipelines", 100):
            told = excerpts_told(kind, pipeline, 3)
            for holders in ("A", "".join(holder for holder in "@ABZ" if dice.random() < 0.4) or "B"):
                forms.append(self.check(kind, pipeline, holders, told))
        for kind, pipeline in random_pairs("shares of longer documents", 30, "a", "AB", 9):
            forms.append(self.check(kind, pipeline, "A", excerpts_told(kind, pipeline, 6)))
        for form in ("met", "none"):
            self.assertGreater(forms.count(form), 20)

    def test_random_kinds_of_documents_with_repeated_words(self):
        dice = dice_for("shares of words")
        forms = []
        for _ in range(100):
            words = [dice.choice([EMPTY, A, B, then(A, B), then(B, B, A)]) for _ in range(3)]
            kind = ("a", "AB", then(words[0], star(either(words[1], then(A, B, dice.choice([A, B])))), words[2]))
            stage = tuple(rule(target=dice.choice([A, B, ANY]), after=dice.choice([ALL, then(ANY, ALL)]),
                               output=dice.choice(["$", "$", "$$", "a$"])) for _ in range(2))
            try:
                graph(kind, (stage,))
            except TooComplex:
                continue
            forms.append(self.check(kind, (stage,), dice.choice(["A", "B", "@"]), excerpts_told(kind, (stage,), 7)))
        for form in ("met", "neared"):
            self.assertGreater(forms.count(form), 20)

    def check(self, kind, pipeline, holders, told):
        found = greatest_share(kind, pipeline, holders)
        self.assertTrue(is_plain(found) and not has_flags(found))
        shares = [(document, Fraction(numbers(holders, symbols)[1], len(symbols))) for document, symbols in told if symbols]
        if found == ("none",):
            self.assertEqual(shares, [])
            return "none"
        share = Fraction(found[1], found[2])
        self.assertEqual((share.numerator, share.denominator), found[1:3])
        if found[0] == "met":
            size, chosen = numbers(holders, excerpt_of(pipeline, found[3]))
            self.assertTrue(fits(kind[2], found[3]))
            self.assertEqual(Fraction(chosen, size), share)
            met = [document for document, reached in shares if reached == share]
            self.assertTrue(not met or met[0] == found[3], (kind, pipeline, found))
        else:
            size, chosen = self.check_loop(kind, pipeline, found[3:], lambda symbols: numbers(holders, symbols))
            self.assertGreater(size, 0)
            self.assertEqual(Fraction(chosen, size), share)
            self.assertTrue(all(reached < share for _, reached in shares))
        self.assertTrue(all(reached <= share for _, reached in shares))
        return found[0]


class GreatestSum(Looping):
    def test_the_examples_of_the_document(self):
        self.assertEqual(greatest_sum(EVERYTHING, PIPELINE, (("A", 1), ("B", -1))), ("bounded", 0, ()))
        prices = (("A", 5), ("B", -1))
        found = greatest_sum(EVERYTHING, PIPELINE, prices)
        self.assertEqual(found[0], "unbounded")
        self.assertGreater(self.check_loop(EVERYTHING, PIPELINE, found[1:], lambda symbols: (added(prices, symbols),))[0], 0)
        self.assertIs(greatest_sum(("a", "AB", NEVER), PIPELINE, ()), None)

    def test_kinds_without_a_document(self):
        for prices in ((), (("A", 5),), (("A", -1000), ("B", 1000))):
            self.assertIs(greatest_sum(("a", "AB", NEVER), COPYING, prices), None)
            self.assertIs(greatest_sum(("a", "AB", both(A, B)), PIPELINE, prices), None)

    def test_bounded_sums(self):
        few = ("a", "AB", either(then(A, B), then(B, A, A), then(B, B, B, A)))
        self.assertEqual(greatest_sum(few, COPYING, (("A", 2), ("B", 1))), ("bounded", 5, ("Ba", "Aa", "Aa")))
        self.assertEqual(greatest_sum(few, COPYING, (("A", 1), ("B", 1))), ("bounded", 4, ("Ba", "Ba", "Ba", "Aa")))
        self.assertEqual(greatest_sum(few, COPYING, (("A", -1), ("B", -1))), ("bounded", -2, ("Aa", "Ba")))
        self.assertEqual(greatest_sum(few, COPYING, (("A", 1),)), ("bounded", 2, ("Ba", "Aa", "Aa")))
        self.assertEqual(greatest_sum(few, DROPPING, (("A", 1000),)), ("bounded", 0, ("Aa", "Ba")))

    def test_no_prices_and_holders_of_no_alphabet(self):
        self.assertEqual(greatest_sum(EVERYTHING, PIPELINE, ()), ("bounded", 0, ()))
        self.assertEqual(greatest_sum(EVERYTHING, PIPELINE, (("Q", 7), ("Z", -7))), ("bounded", 0, ()))
        self.assertEqual(greatest_sum(("a", "AB", SOME), PIPELINE, ()), ("bounded", 0, ("Aa",)))

    def test_the_editor(self):
        self.assertEqual(greatest_sum(EVERYTHING, MARKING, (("@", -2), ("A", 2), ("B", 1))), ("bounded", 0, ()))
        self.assertEqual(greatest_sum(("a", "AB", then(A, B)), MARKING, (("@", 3), ("A", 2))), ("bounded", 8, ("Aa", "Ba")))
        self.assertEqual(greatest_sum(EVERYTHING, MARKING, (("@", 3), ("A", -2), ("B", -3)))[0], "unbounded")

    def test_great_sums(self):
        tripled = ((rule(output="$$$"),),) * 3
        self.assertEqual(greatest_sum(("a", "AB", then(A, A)), tripled, (("A", 1000),)), ("bounded", 54000, ("Aa", "Aa")))

    def test_random_kinds_and_pipelines(self):
        dice = dice_for("sums of pipelines")
        forms = []
        for kind, pipeline in random_pairs("sums of pipelines", 80):
            told = excerpts_told(kind, pipeline, 3)
            for _ in range(2):
                prices = tuple((holder, dice.randint(-2, 1)) for holder in "@ABZ" if dice.random() < 0.7)
                forms.append(self.check(kind, pipeline, prices, told))
        for form in ("bounded", "unbounded", None):
            self.assertIn(form, forms)

    def check(self, kind, pipeline, prices, told):
        found = greatest_sum(kind, pipeline, prices)
        self.assertTrue(is_plain(found) and not has_flags(found))
        sums = [(document, added(prices, symbols)) for document, symbols in told]
        if found is None:
            self.assertEqual(told, [])
            return None
        if found[0] == "unbounded":
            grown = self.check_loop(kind, pipeline, found[1:], lambda symbols: (added(prices, symbols),))
            self.assertGreater(grown[0], 0)
            return found[0]
        _, greatest, document = found
        self.assertTrue(fits(kind[2], document))
        self.assertEqual(added(prices, excerpt_of(pipeline, document)), greatest)
        self.assertTrue(all(reached <= greatest for _, reached in sums))
        first = [met for met, reached in sums if reached == greatest]
        self.assertTrue(not first or first[0] == document)
        return found[0]


class Holders(unittest.TestCase):
    def test_the_example_of_the_interface(self):
        self.assertEqual(holders_of(EVERYTHING, PIPELINE), ("A", "B"))

    def test_with_and_without_the_editor(self):
        self.assertEqual(holders_of(EVERYTHING, MARKING), ("@", "A", "B"))
        self.assertEqual(holders_of(EVERYTHING, ((rule(output="a"),),)), ("@",))
        self.assertEqual(holders_of(EVERYTHING, (MARKING[0], (rule(target=A),))), ("A",))
        self.assertEqual(holders_of(EVERYTHING, (MARKING[0], (rule(target=EDITOR),))), ("@",))

    def test_none(self):
        self.assertEqual(holders_of(EVERYTHING, DROPPING), ())
        self.assertEqual(holders_of(("a", "AB", NEVER), COPYING), ())
        self.assertEqual(holders_of(("a", "AB", EMPTY), COPYING), ())
        self.assertEqual(holders_of(("a", "AB", star(A)), PIPELINE), ())

    def test_only_documents_of_the_kind_count(self):
        self.assertEqual(holders_of(("a", "ABC", star(A)), COPYING), ("A",))
        self.assertEqual(holders_of(("a", "ABC", then(A, A, A)), ((rule(), rule(target=B)),)), ("A",))
        # A symbol of C is put out only behind seven symbols, and there is no such document.
        late = ((rule(target=B), rule(then(*[ANY] * 7), of("C"))),)
        self.assertEqual(holders_of(("a", "BC", either(star(B), then(of("C"), of("C")))), late), ("B",))

    def test_random_kinds_and_pipelines(self):
        for kind, pipeline in random_pairs("holders", 60):
            found = holders_of(kind, pipeline)
            told = {symbol[0] for _, symbols in excerpts_told(kind, pipeline, 4) for symbol in symbols}
            self.assertEqual(found, tuple(sorted(set(found))))
            self.assertLessEqual(told, set(found))
            if len(graph(kind, pipeline)[0]) <= 3:
                self.assertEqual(told, set(found), (kind, pipeline))


class Errors(unittest.TestCase):
    def refuse(self, error, kind, pipeline, stage=None):
        for call in (lambda: greatest_share(kind, pipeline, "A"), lambda: greatest_sum(kind, pipeline, (("A", 1),)),
                     lambda: holders_of(kind, pipeline)):
            with self.assertRaises(error) as caught:
                call()
            if error is TooLarge:
                self.assertEqual(caught.exception.stage, stage)

    def test_what_graph_raises(self):
        self.refuse(TooComplex, ("a", "AB", FOURTH), (LARGE,))
        self.refuse(TooLarge, EVERYTHING, (LARGE,), 0)
        self.refuse(TooLarge, ("a", "AB", NEVER), (COPYING[0], LARGE), 1)
        self.refuse(TooComplex, EVERYTHING, ((rule(FOURTH),),))
        self.refuse(TooLarge, ("a", "AB", TWELVES), ((rule(FIVES), rule(SEVENS)),), None)


if __name__ == "__main__":
    unittest.main()
