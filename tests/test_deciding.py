"""Deciding and checking certificates: [240] to [245] and excerptcheck/deciding.py in the interface."""

import unittest

from excerptcheck.deciding import check_certificate, decide
from excerptcheck.errors import TooComplex, TooLarge
from excerptcheck.graphs import graph
from excerptcheck.kinds import kind_machine
from excerptcheck.machines import machine
from excerptcheck.nets import defect, net_of, potentials
from excerptcheck.policies import complies, weight
from excerptcheck.spreads import spread, spread_defect
from oracles import excerpt_told
from pipes import (A, B, COPYING, DROPPING, FIVES, FOURTH, LARGE, NEVER, SEVENS, SOME, TWELVES, complies_told,
                   excerpts_told, random_pairs, random_policy, rule, symbols_of)
from samples import (ALL, ANY, EMPTY, EVERYTHING, PIPELINE, both, dice_for, either, fits, has_flags, is_plain, no, of, star,
                     then)

HALF, THIRD = ("share", "A", 1, 2), ("share", "A", 1, 3)
LONELY = ("matches", no(then(ALL, A, A, ALL)))
ONLY_A = ("a", "A", ALL)
# Documents of A with one symbol of B in front.
LED = ("a", "AB", then(B, star(A)))


def summed(bound, **prices):
    return ("sum", tuple(sorted((holder.replace("editor", "@"), price) for holder, price in prices.items())), bound)


class Decide(unittest.TestCase):
    def test_the_examples_of_the_document(self):
        self.assertEqual(decide(EVERYTHING, PIPELINE, HALF), (True, (0, -1), None))
        self.assertEqual(decide(EVERYTHING, PIPELINE, THIRD), (False, None, ("Aa", "Ba")))
        self.assertEqual(decide(EVERYTHING, PIPELINE, LONELY), (True, ((0,), (0, 1)), None))

    def test_bounds_that_are_just_met_and_just_exceeded(self):
        three = ("a", "AB", then(A, B, B))
        for policy in (("share", "A", 1, 3), ("share", "A", 333, 999), summed(1, A=1), summed(-1, A=1, B=-1),
                       ("share", "B", 2, 3), summed(1000, B=500)):
            self.assertIs(decide(three, COPYING, policy)[0], True, policy)
        for policy in (("share", "A", 333, 1000), ("share", "A", 1, 4), summed(0, A=1), summed(-2, A=1, B=-1),
                       ("share", "B", 665, 1000), summed(999, B=500)):
            self.assertEqual(decide(three, COPYING, policy), (False, None, ("Aa", "Ba", "Ba")), policy)

    def test_p_is_0(self):
        for q in (1, 2, 1000):
            self.assertEqual(decide(EVERYTHING, PIPELINE, ("share", "A", 0, q)), (False, None, ("Aa", "Ba")))
            self.assertEqual(decide(EVERYTHING, PIPELINE, ("share", "@", 0, q)), (True, (0, 0), None))
            self.assertEqual(decide(("a", "AB", star(B)), PIPELINE, ("share", "A", 0, q))[0], True)

    def test_shares_that_nothing_exceeds(self):
        self.assertEqual(decide(EVERYTHING, PIPELINE, ("share", "@AB", 1, 1)), (True, (0, 0), None))
        self.assertEqual(decide(EVERYTHING, PIPELINE, ("share", "AB", 1000, 1))[0], True)
        self.assertEqual(decide(EVERYTHING, PIPELINE, ("share", "AB", 999, 1000)), (False, None, ("Ba",)))

    def test_holders_of_no_alphabet(self):
        self.assertEqual(decide(EVERYTHING, PIPELINE, ("share", "QXYZ", 0, 1)), (True, (0, 0), None))
        self.assertEqual(decide(EVERYTHING, PIPELINE, summed(0, Q=1000, Z=1)), (True, (0, 0), None))
        self.assertEqual(decide(EVERYTHING, PIPELINE, ("share", "AQ", 1, 2))[0], True)
        self.assertEqual(decide(EVERYTHING, PIPELINE, summed(0, B=1, Z=-9)), (False, None, ("Ba",)))
        self.assertEqual(decide(EVERYTHING, PIPELINE, ("matches", star(no(of("Q"))))), (True, ((0,), (0,)), None))

    def test_negative_prices_and_bounds(self):
        # The empty document is of the kind, and its excerpt has the sum 0.
        self.assertEqual(decide(EVERYTHING, COPYING, summed(-1, A=-1)), (False, None, ()))
        self.assertEqual(decide(("a", "AB", SOME), COPYING, summed(-1, A=-1, B=-1))[0], True)
        self.assertEqual(decide(("a", "AB", SOME), COPYING, summed(-2, A=-1, B=-2)), (False, None, ("Aa",)))
        self.assertEqual(decide(("a", "AB", SOME), COPYING, summed(-2, A=-3, B=-1)), (False, None, ("Ba",)))
        self.assertEqual(decide(EVERYTHING, PIPELINE, summed(0, A=1, B=-1)), (True, (0, -1), None))
        self.assertEqual(decide(EVERYTHING, PIPELINE, summed(0, A=1000, B=-999)), (False, None, ("Aa", "Ba")))
        self.assertEqual(decide(EVERYTHING, PIPELINE, summed(-1000000)), (False, None, ()))
        self.assertEqual(decide(EVERYTHING, PIPELINE, summed(1000000)), (True, (0, 0), None))

    def test_a_sum_without_prices(self):
        self.assertEqual(decide(EVERYTHING, PIPELINE, ("sum", (), 0)), (True, (0, 0), None))
        self.assertEqual(decide(EVERYTHING, PIPELINE, ("sum", (), -1)), (False, None, ()))

    def test_kinds_without_a_document(self):
        for policy in (HALF, THIRD, LONELY, ("matches", NEVER), summed(-5, A=3), ("sum", (), -1000000)):
            for pattern in (NEVER, both(A, B), no(ALL)):
                self.assertEqual(decide(("a", "AB", pattern), PIPELINE, policy), (True, (), None))

    def test_the_empty_document_alone(self):
        only = ("a", "AB", EMPTY)
        self.assertEqual(decide(only, PIPELINE, ("share", "A", 0, 1)), (True, (0,), None))
        self.assertEqual(decide(only, PIPELINE, summed(0, A=1)), (True, (0,), None))
        self.assertEqual(decide(only, PIPELINE, summed(-1, A=1)), (False, None, ()))
        self.assertEqual(decide(only, PIPELINE, ("matches", ANY)), (False, None, ()))
        self.assertEqual(decide(only, PIPELINE, ("matches", star(ANY))), (True, ((0,),), None))

    def test_few_documents(self):
        few = ("a", "AB", either(then(A, B), then(B, A, A), then(B, B, B, A)))
        self.assertEqual(decide(few, COPYING, ("share", "A", 2, 3))[0], True)
        self.assertEqual(decide(few, COPYING, ("share", "A", 1, 2)), (False, None, ("Ba", "Aa", "Aa")))
        self.assertEqual(decide(few, COPYING, ("share", "A", 1, 4)), (False, None, ("Aa", "Ba")))
        self.assertEqual(decide(few, COPYING, ("matches", then(B, ALL))), (False, None, ("Aa", "Ba")))
        self.assertEqual(decide(few, COPYING, ("matches", no(then(B, B, ALL)))), (False, None, ("Ba", "Ba", "Ba", "Aa")))
        self.assertEqual(decide(few, DROPPING, ("share", "AB", 0, 1))[0], True)

    def test_origins_do_not_count(self):
        swapping = ((rule(ALL, A, ALL, "$"), rule(ALL, B, ALL, "")),)
        self.assertEqual(decide(EVERYTHING, swapping, ("matches", star(A)))[0], True)

    def test_symbols_of_the_editor(self):
        marking = ((rule(output="$a"),),)
        self.assertEqual(decide(EVERYTHING, marking, ("share", "@", 1, 2)), (True, (0,), None))
        self.assertEqual(decide(EVERYTHING, marking, ("share", "@", 499, 1000)), (False, None, ("Aa",)))
        self.assertEqual(decide(EVERYTHING, marking, ("matches", star(then(ANY, of("@", "a"))))), (True, ((0,),), None))
        self.assertEqual(decide(EVERYTHING, marking, summed(0, editor=1)), (False, None, ("Aa",)))

    def test_a_policy_may_be_broken_by_many_documents_only_late(self):
        self.assertEqual(decide(EVERYTHING, COPYING, summed(3, A=1, B=2)), (False, None, ("Ba", "Ba")))
        self.assertEqual(decide(EVERYTHING, COPYING, summed(2, A=1, B=1)), (False, None, ("Aa", "Aa", "Aa")))

    def test_documents_with_exactly_60_and_61_symbols(self):
        self.assertEqual(decide(ONLY_A, COPYING, summed(59, A=1)), (False, None, ("Aa",) * 60))
        self.assertEqual(decide(ONLY_A, COPYING, summed(60, A=1)), (False, None, None))
        self.assertEqual(decide(ONLY_A, COPYING, summed(1000000, A=1)), (False, None, None))
        self.assertEqual(decide(LED, COPYING, ("share", "A", 58, 59)), (False, None, ("Ba",) + ("Aa",) * 59))
        self.assertEqual(decide(LED, COPYING, ("share", "A", 59, 60)), (False, None, None))
        self.assertEqual(decide(LED, COPYING, ("share", "A", 1, 1))[0], True)

    def test_documents_with_exactly_60_and_61_symbols_under_matches(self):
        # The excerpt is empty, unless the number of symbols before the last one fits.
        nothing = ("matches", EMPTY)
        sixty = ("a", "AB", both(FIVES, then(star(A), B)))
        marked = ((rule(target=A), rule(output="a$")), (rule(TWELVES, B),))
        self.assertEqual(decide(sixty, marked, nothing), (False, None, ("Aa",) * 59 + ("Ba",)))
        last = ("a", "AB", then(star(then(*[A] * 5)), B))
        plain = ((rule(target=A), rule(SOME, B)), (rule(TWELVES, B),))
        self.assertEqual(decide(last, plain, nothing), (False, None, None))
        self.assertEqual(decide(last, plain, ("matches", star(B)))[0], True)

    def test_random_kinds_pipelines_and_policies(self):
        dice = dice_for("deciding")
        answers = []
        for kind, pipeline in random_pairs("deciding", 150):
            told = excerpts_told(kind, pipeline, 3)
            for _ in range(4):
                answers.append(self.check(kind, pipeline, random_policy(dice), told, 3))
        self.assertGreater(answers.count(True), 100)
        self.assertGreater(answers.count(False), 100)

    def test_random_kinds_pipelines_and_policies_on_longer_documents(self):
        dice = dice_for("deciding longer")
        for kind, pipeline in random_pairs("deciding longer", 60, "a", "AB", 9):
            told = excerpts_told(kind, pipeline, 6)
            for _ in range(4):
                self.check(kind, pipeline, random_policy(dice), told, 6)

    def check(self, kind, pipeline, policy, told, most):
        try:
            found = decide(kind, pipeline, policy)
        except TooComplex:
            return None
        self.assertTrue(is_plain(found[1:]) and not has_flags(found[1:]))
        broken = [document for document, symbols in told if not complies_told(policy, symbols)]
        if broken:
            self.assertEqual(found, (False, None, broken[0]), (kind, pipeline, policy))
        elif found[0]:
            self.check_certified(kind, pipeline, policy, found)
        else:
            document = found[2]
            self.assertIs(found[1], None)
            self.assertGreater(len(document), most)
            self.assertTrue(fits(kind[2], document))
            self.assertFalse(complies(policy, symbols_of(excerpt_told(pipeline, document))))
        return found[0]

    def check_certified(self, kind, pipeline, policy, found):
        answer, certificate, document = found
        self.assertIs(answer, True)
        self.assertIsNone(document)
        self.assertIsNone(check_certificate(kind, pipeline, policy, certificate))
        made = graph(kind, pipeline)
        self.assertEqual(len(certificate), len(made[0]))
        if policy[0] == "matches":
            reads = tuple(sorted(holder + letter for holder in "@" + kind[1] for letter in kind[0]))
            self.assertEqual(certificate, spread(made, machine(reads, policy[1])))
        else:
            weights = tuple(weight(policy, edge[3]) for edge in made[3])
            self.assertEqual(certificate, potentials(net_of(made), weights))
            self.assertNotIn(None, certificate)


class CheckCertificate(unittest.TestCase):
    def defects(self, policy, certificates, kind=EVERYTHING, pipeline=PIPELINE):
        for certificate, expected in certificates:
            self.assertEqual(check_certificate(kind, pipeline, policy, certificate), expected, certificate)

    def test_the_examples_of_the_document(self):
        self.defects(HALF, [((0, -1), None), ((0, 0), ("edge", 1)), ((0,), ("count", 2))])

    def test_other_certificates_that_are_valid(self):
        # Somewhat more than is needed: of a price of A, a price of B is got back each time.
        self.defects(summed(10, A=1, B=-1), [((0, -1), None), ((5, 4), None), ((10, 9), None), ((10, 10), ("edge", 1)),
                                             ((11, 10), ("start", 0)), ((9, 11), ("start", 1))])
        self.defects(summed(3, A=1, B=-2), [((0, -1), None), ((0, -2), None), ((1, 0), None), ((3, 1), None),
                                            ((0, -3), ("edge", 2)), ((2, 2), ("edge", 1))])
        self.assertEqual(len(machine(("@a", "Aa", "Ba"), LONELY[1])[1]), 3)
        self.defects(LONELY, [(((0,), (0, 1)), None), (((0, 1), (0, 1)), ("edge", 1))])

    def test_more_states_than_are_needed_may_be_listed(self):
        only_b = ("a", "AB", star(B))
        policy = ("matches", star(of("B")))
        self.assertEqual(decide(only_b, COPYING, policy)[1], ((0,),))
        self.defects(policy, [(((0,),), None), (((0, 1),), ("end", 0))], only_b, COPYING)
        # A class that is listed without need, at a point that is no end point.
        two = ("a", "AB", then(B, B))
        lists = decide(two, COPYING, policy)[1]
        self.assertEqual(lists, ((0,), (0,), (0,)))
        self.defects(policy, [(((0,), (0,), (0,)), None), (((0, 1), (0,), (0,)), ("edge", 0)),
                              (((0,), (0,), (0, 1)), ("end", 2))], two, COPYING)

    def test_the_count_comes_first(self):
        for certificate in ((), (0,), (99, -99, 0), (-5,) * 300):
            self.defects(HALF, [(certificate, ("count", 2))])
        for certificate in ((), ((),), ((5,), (7,), (9,)), ((12,),) * 300):
            self.defects(LONELY, [(certificate, ("count", 2))])

    def test_then_the_classes(self):
        self.defects(LONELY, [(((3,), (0, 1)), ("class", 0)), (((), (3,)), ("class", 1)), (((5,), (7,)), ("class", 0)),
                              (((0, 1, 2), (1000000,)), ("class", 1)), (((1, 2, 3), (0,)), ("class", 0)),
                              (((0, 1, 2), (0, 1, 2)), ("end", 0))])

    def test_then_start_points_then_end_points_then_edges(self):
        # Both points are start points, the first one is the end point.
        self.defects(HALF, [((1, 1), ("start", 0)), ((0, 1), ("start", 1)), ((-1, 1), ("start", 1)),
                            ((-1, -1), ("end", 0)), ((-1, 0), ("end", 0)), ((0, -3), ("edge", 2)),
                            ((0, 0), ("edge", 1)), ((0, -2), ("edge", 2))])
        self.defects(LONELY, [(((), ()), ("start", 0)), (((0,), ()), ("start", 1)), (((1, 2), (0, 1)), ("start", 0)),
                              (((0, 2), ()), ("start", 1)), (((0, 2), (0,)), ("end", 0)),
                              (((0,), (0,)), ("edge", 1)), (((0,), (0, 2)), ("edge", 1))])

    def test_the_bound_of_a_share_is_0_and_of_a_sum_its_own(self):
        self.defects(("share", "A", 1000, 1), [((0, 0), None), ((1, 0), ("start", 0))])
        self.defects(summed(-4, A=1), [((0, 0), ("start", 0)), ((-4, -4), ("end", 0))])
        self.defects(summed(7, A=-1), [((7, 7), None), ((8, 7), ("start", 0)), ((7, 8), ("start", 1))])

    def test_great_integers(self):
        great = 1000000000
        self.defects(HALF, [((-great, -great), ("end", 0)), ((great, 0), ("start", 0)), ((0, -great), ("edge", 2))])

    def test_an_empty_certificate_of_a_kind_without_a_document(self):
        none = ("a", "AB", NEVER)
        for policy in (HALF, LONELY, summed(-9)):
            self.defects(policy, [((), None), ((0,), ("count", 0))], none)

    def test_no_certificate_is_valid_if_some_excerpt_does_not_comply(self):
        for first in range(-4, 3):
            for second in range(-4, 3):
                self.assertIsNotNone(check_certificate(EVERYTHING, PIPELINE, THIRD, (first, second)))
        lists = [tuple(state for state in range(3) if bits >> state & 1) for bits in range(8)]
        broken = ("matches", no(then(ALL, B, B, ALL)))
        for first in lists:
            for second in lists:
                self.assertIsNotNone(check_certificate(EVERYTHING, PIPELINE, broken, (first, second)))

    def test_as_the_points_of_graphs_and_nets_say(self):
        dice = dice_for("defects")
        for kind, pipeline in random_pairs("defects", 80, nodes=5):
            made = graph(kind, pipeline)
            for _ in range(6):
                policy = random_policy(dice)
                try:
                    found = decide(kind, pipeline, policy)
                except TooComplex:
                    continue
                self.check_changed(dice, kind, pipeline, policy, made, found[1])

    def check_changed(self, dice, kind, pipeline, policy, made, certificate):
        count = len(made[0])
        if policy[0] == "matches":
            reads = tuple(sorted(holder + letter for holder in "@" + kind[1] for letter in kind[0]))
            acceptor = machine(reads, policy[1])
            states = range(len(acceptor[1]))
            tried = tuple(tuple(state for state in states if dice.random() < 0.6) for _ in range(count))
            self.assertEqual(check_certificate(kind, pipeline, policy, tried), spread_defect(made, acceptor, tried))
            if count:
                at = dice.randrange(count)
                wrong = tried[:at] + (tried[at] + (len(acceptor[1]),),) + tried[at + 1:]
                self.assertEqual(check_certificate(kind, pipeline, policy, wrong), ("class", at))
        else:
            weights = tuple(weight(policy, edge[3]) for edge in made[3])
            bound = policy[2] if policy[0] == "sum" else 0
            tried = tuple(number + dice.choice([-1, 0, 0, 0, 1]) for number in certificate or (0,) * count)
            self.assertEqual(check_certificate(kind, pipeline, policy, tried),
                             defect(net_of(made), weights, bound, tried))
        self.assertEqual(check_certificate(kind, pipeline, policy, tried + tried[:1] + (0,)), ("count", count))

    def test_a_valid_certificate_means_that_all_excerpts_comply(self):
        dice = dice_for("valid certificates")
        valid = 0
        for kind, pipeline in random_pairs("valid certificates", 60, "a", "AB", 5):
            count = len(graph(kind, pipeline)[0])
            told = excerpts_told(kind, pipeline, 5)
            for _ in range(40 if count < 5 else 0):
                policy = ("sum", tuple((holder, dice.randint(-2, 1)) for holder in "@AB"), dice.randint(0, 3))
                certificate = tuple(dice.randint(0, 3) for _ in range(count))
                if check_certificate(kind, pipeline, policy, certificate) is None:
                    valid += 1
                    self.assertTrue(all(complies_told(policy, symbols) for _, symbols in told))
        self.assertGreater(valid, 50)


class Errors(unittest.TestCase):
    def refuse(self, error, kind, pipeline, policy, stage=None):
        for call in (lambda: decide(kind, pipeline, policy), lambda: check_certificate(kind, pipeline, policy, ())):
            with self.assertRaises(error) as caught:
                call()
            if error is TooLarge:
                self.assertEqual(caught.exception.stage, stage)

    def test_the_kind_comes_first(self):
        complex_kind = ("a", "AB", FOURTH)
        for pipeline in (COPYING, (LARGE,), (COPYING[0], LARGE)):
            for policy in (HALF, LONELY, ("matches", FOURTH)):
                self.refuse(TooComplex, complex_kind, pipeline, policy)

    def test_then_the_pipeline(self):
        for policy in (HALF, ("matches", FOURTH), summed(3)):
            self.refuse(TooLarge, EVERYTHING, (LARGE,), policy, 0)
            self.refuse(TooLarge, EVERYTHING, (COPYING[0], LARGE), policy, 1)
            self.refuse(TooLarge, ("a", "AB", NEVER), (LARGE,), policy, 0)
            self.refuse(TooComplex, EVERYTHING, ((rule(FOURTH),),), policy)

    def test_then_the_graph(self):
        for policy in (HALF, ("matches", FOURTH), summed(3)):
            self.refuse(TooLarge, ("a", "AB", TWELVES), ((rule(FIVES), rule(SEVENS)),), policy, None)

    def test_then_the_pattern_of_the_policy(self):
        self.refuse(TooComplex, EVERYTHING, PIPELINE, ("matches", FOURTH))
        self.refuse(TooComplex, ("a", "AB", NEVER), PIPELINE, ("matches", FOURTH))
        self.refuse(TooComplex, EVERYTHING, PIPELINE, ("matches", both(NEVER, FOURTH)))

    def test_the_pattern_counts_over_all_symbols_of_the_alphabet(self):
        # Over the symbols of B alone, the pattern would have no match, and few classes.
        late = then(ALL, of("@"), ANY, ANY, ANY)
        kind_machine(("a", "AB", late))
        self.refuse(TooComplex, EVERYTHING, PIPELINE, ("matches", late))


if __name__ == "__main__":
    unittest.main()
