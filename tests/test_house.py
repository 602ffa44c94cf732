"""The clearing house: [300] to [307] and excerptcheck/house.py in the interface."""

import unittest

from excerptcheck import errors
from excerptcheck.deciding import check_certificate, decide
from excerptcheck.house import Clearinghouse
from excerptcheck.pipelines import excerpt
from housemodel import Model
from pipes import (A, B, COPYING, DROPPING, EDITOR, FIVES, FOURTH, LARGE, NEVER, SEVENS, SOME, TWELVES,
                   random_policy, rule)
from samples import (ALL, ANY, EMPTY, PIPELINE, both, dice_for, either, has_flags, is_plain, no, of, random_sequence, star,
                     then)

RATES = (("A", 5), ("B", 1))
FREELY = ("matches", ALL)
SHORT = either(EMPTY, ANY, then(ANY, ANY))
MARKING = ((rule(output="a$"),),)
HALF, THIRD = ("share", "A", 1, 2), ("share", "A", 1, 3)


def state(house):
    """All that a house tells of itself."""
    contracts = []
    while True:
        try:
            contracts.append(house.contract(len(contracts)))
        except errors.Unknown:
            break
    return (house.accounts, house.terms, house.active, house.log, len(house), list(house), contracts)


def house_with(*commands, rates=RATES, letters="a"):
    house = Clearinghouse(letters, rates)
    for command in commands:
        house.execute(command)
    return house


def open_house(kind=ALL, pipeline=COPYING, rates=RATES, letters="a"):
    """A house in which every owner has consented to everything."""
    consents = [("consent", owner, FREELY) for owner, _ in rates]
    return house_with(("kind", kind), ("pipeline", pipeline), *consents, rates=rates, letters=letters)


class Case(unittest.TestCase):
    def refuse(self, house, command, error, /, **attributes):
        """The command raises this error with these attributes, and changes nothing."""
        before = state(house)
        with self.assertRaises(getattr(errors, error)) as caught:
            house.execute(command)
        self.assertEqual({word: getattr(caught.exception, word) for word in attributes}, attributes)
        self.assertEqual(state(house), before)


class Example(Case):
    def test_the_example_of_the_interface(self):
        house = Clearinghouse("a", RATES)
        self.assertEqual(house.execute(("kind", SHORT)), 0)
        self.assertEqual(house.execute(("pipeline", PIPELINE)), 0)
        self.assertEqual(house.execute(("consent", "A", HALF)), ())
        self.assertEqual(house.execute(("consent", "B", FREELY)), ())
        self.assertEqual(house.execute(("contract", 0, 0, 6)), 0)
        self.assertEqual(house.execute(("deliver", 0, ("Aa", "Ba"))), (("Aa", 0), ("Ba", 1)))
        self.assertEqual(house.execute(("consent", "A", THIRD)), (0,))
        self.assertEqual(house.contract(0), (0, 0, 6, 1, ("A", ("Aa", "Ba"))))
        self.refuse(house, ("deliver", 0, ("Ba",)), "Suspended", owner="A", document=("Aa", "Ba"))
        self.assertEqual(house.accounts, (6, 0, (("A", 5), ("B", 1)), (("A", 0), ("B", 0))))
        self.assertIs(house.undo(), True)
        self.assertEqual(house.active, (0,))


class NewHouse(Case):
    def test_a_house_without_anything(self):
        house = Clearinghouse("abc", (("B", 0), ("D", 999), ("Z", 7)))
        nothing = (("B", 0), ("D", 0), ("Z", 0))
        self.assertEqual(house.accounts, (0, 0, nothing, nothing))
        self.assertEqual(house.terms, tuple((owner, ("share", owner, 0, 1)) for owner in "BDZ"))
        self.assertEqual((house.active, house.log, len(house), list(house)), ((), (), 0, []))
        self.assertIs(house.undo(), False)
        for number in (0, -1, 5, 10 ** 30):
            with self.assertRaises(errors.Unknown) as caught:
                house.contract(number)
            self.assertEqual(caught.exception.name, "contract")

    def test_houses_do_not_share_anything(self):
        one, other = Clearinghouse("a", RATES), Clearinghouse("a", RATES)
        one.execute(("kind", ALL))
        one.execute(("consent", "A", HALF))
        self.assertEqual((len(other), other.terms[0]), (0, ("A", ("share", "A", 0, 1))))

    def test_what_is_told_cannot_be_changed(self):
        house = open_house()
        for value in (house.accounts, house.terms, house.active):
            self.assertTrue(is_plain(value))
            self.assertFalse(has_flags(house.accounts))


class Kinds(Case):
    def test_their_numbers_and_a_fifth_one(self):
        house = Clearinghouse("a", RATES)
        for number in range(4):
            self.assertEqual(house.execute(("kind", ALL)), number)
        self.refuse(house, ("kind", NEVER), "TooMany")
        self.assertIs(house.undo(), True)
        self.assertEqual(house.execute(("kind", NEVER)), 3)

    def test_too_complex_comes_before_too_many(self):
        house = Clearinghouse("a", RATES)
        for _ in range(5):
            self.refuse(house, ("kind", FOURTH), "TooComplex")
            if len(house) < 4:
                house.execute(("kind", ALL))

    def test_the_owner_symbols_of_the_house_count(self):
        late = then(ALL, EDITOR, ANY, ANY, ANY)
        self.assertEqual(house_with().execute(("kind", late)), 0)
        # With one owner, everything belongs to A.
        self.assertEqual(house_with(rates=(("A", 1),)).execute(("kind", FOURTH)), 0)


class Pipelines(Case):
    def test_their_numbers_and_a_fifth_one(self):
        house = Clearinghouse("a", RATES)
        for number in range(4):
            self.assertEqual(house.execute(("pipeline", COPYING)), number)
        self.refuse(house, ("pipeline", DROPPING), "TooMany")
        self.assertIs(house.undo(), True)
        self.assertEqual(house.execute(("pipeline", DROPPING)), 3)

    def test_what_its_machine_raises_comes_first(self):
        house = Clearinghouse("a", RATES)
        for _ in range(5):
            self.refuse(house, ("pipeline", (LARGE,)), "TooLarge", stage=0)
            self.refuse(house, ("pipeline", (COPYING[0], LARGE)), "TooLarge", stage=1)
            self.refuse(house, ("pipeline", (COPYING[0], COPYING[0], LARGE)), "TooLarge", stage=2)
            self.refuse(house, ("pipeline", ((rule(FOURTH),),)), "TooComplex")
            self.refuse(house, ("pipeline", ((rule(FOURTH),), LARGE)), "TooComplex")
            if len(house) < 4:
                house.execute(("pipeline", COPYING))


class Terms(Case):
    def test_consents_and_withdrawals(self):
        house = Clearinghouse("a", RATES)
        self.assertEqual(house.execute(("consent", "B", HALF)), ())
        self.assertEqual(house.terms, (("A", ("share", "A", 0, 1)), ("B", HALF)))
        self.assertEqual(house.execute(("consent", "B", FREELY)), ())
        self.assertEqual(house.execute(("consent", "A", ("sum", (("A", -3), ("Z", 9)), -5))), ())
        self.assertEqual(house.terms, (("A", ("sum", (("A", -3), ("Z", 9)), -5)), ("B", FREELY)))
        self.assertEqual(house.execute(("withdraw", "A")), ())
        self.assertEqual(house.terms, (("A", ("share", "A", 0, 1)), ("B", FREELY)))
        self.assertEqual(house.execute(("withdraw", "A")), ())

    def test_owners_of_no_house(self):
        house = Clearinghouse("a", (("A", 5), ("B", 1), ("C", 2)))
        for owner in ("Z", "@", "", "a", "AB", "ABC", "BC", " ", "A "):
            self.refuse(house, ("consent", owner, FREELY), "Unknown", name=owner)
            self.refuse(house, ("consent", owner, ("matches", FOURTH)), "Unknown", name=owner)
            self.refuse(house, ("withdraw", owner), "Unknown", name=owner)
            self.refuse(house, ("settle", owner), "Unknown", name=owner)

    def test_a_pattern_that_is_too_complex(self):
        house = Clearinghouse("a", RATES)
        self.refuse(house, ("consent", "A", ("matches", FOURTH)), "TooComplex")
        # Over all symbols of the alphabet, those of the editor included.
        self.refuse(house, ("consent", "A", ("matches", then(ALL, EDITOR, ANY, ANY, ANY))), "TooComplex")

    def test_contracts_are_suspended_and_suspensions_are_lifted(self):
        house = open_house(kind=then(star(B), either(EMPTY, A)), pipeline=PIPELINE, rates=(("A", 5), ("B", 0)))
        self.assertEqual(house.execute(("contract", 0, 0, 0)), 0)
        self.assertEqual(house.execute(("kind", then(A, B))), 1)
        self.assertEqual(house.execute(("contract", 0, 1, 5)), 1)
        self.assertEqual(house.active, (0, 1))
        self.assertEqual(house.execute(("withdraw", "A")), (1,))
        self.assertEqual(house.contract(1), (0, 1, 5, 0, ("A", ("Aa", "Ba"))))
        self.assertEqual((house.contract(0)[4], house.active), (None, (0,)))
        self.assertEqual(house.execute(("withdraw", "B")), (0, 1))
        self.assertEqual((house.contract(0)[4], house.contract(1)[4]), (("B", ("Ba",)), ("A", ("Aa", "Ba"))))
        self.assertEqual(house.active, ())
        self.assertEqual(house.execute(("consent", "A", HALF)), (0, 1))
        # The first owner whose terms are broken is told.
        self.assertEqual(house.contract(1)[4], ("B", ("Aa", "Ba")))
        self.assertEqual(house.execute(("consent", "B", ("sum", (("B", 1),), 1))), (0,))
        self.assertEqual(house.contract(0)[4], ("B", ("Ba", "Ba")))
        self.assertEqual(house.execute(("consent", "B", FREELY)), ())
        self.assertEqual(house.active, (0, 1))

    def test_terms_of_an_owner_may_speak_of_other_holders(self):
        house = open_house(kind=then(B, B), rates=(("A", 0), ("B", 0), ("C", 0)))
        house.execute(("contract", 0, 0, 0))
        self.assertEqual(house.execute(("consent", "C", ("share", "B", 1, 2))), (0,))
        self.assertEqual(house.contract(0)[4], ("C", ("Ba", "Ba")))
        self.assertEqual(house.execute(("consent", "A", ("sum", (("B", 1),), 1))), (0,))
        self.assertEqual(house.contract(0)[4], ("A", ("Ba", "Ba")))
        self.assertEqual(house.execute(("withdraw", "C")), (0,))
        self.assertEqual(house.execute(("withdraw", "A")), ())

    def test_the_first_document_of_60_and_of_61_symbols(self):
        house = open_house(kind=star(A), rates=(("A", 0),))
        house.execute(("contract", 0, 0, 0))
        self.assertEqual(house.execute(("consent", "A", ("sum", (("A", 1),), 59))), (0,))
        self.assertEqual(house.contract(0)[4], ("A", ("Aa",) * 60))
        self.refuse(house, ("deliver", 0, ()), "Suspended", owner="A", document=("Aa",) * 60)
        self.assertEqual(house.execute(("consent", "A", ("sum", (("A", 1),), 60))), (0,))
        self.assertEqual(house.contract(0), (0, 0, 0, 0, ("A", None)))
        self.refuse(house, ("deliver", 0, ()), "Suspended", owner="A", document=None)
        self.assertEqual(house.active, ())

    def test_a_kind_without_a_document_breaks_no_terms(self):
        house = house_with(("kind", NEVER), ("pipeline", COPYING))
        self.assertEqual(house.execute(("contract", 0, 0, 0)), 0)
        self.assertEqual(house.execute(("consent", "A", ("matches", NEVER))), ())
        self.assertEqual(house.execute(("consent", "B", ("sum", (), -1000000))), ())
        self.refuse(house, ("deliver", 0, ()), "NotOfKind")

    def test_the_empty_document_may_break_terms(self):
        house = house_with(("kind", EMPTY), ("pipeline", COPYING), ("contract", 0, 0, 0))
        self.assertEqual(house.execute(("consent", "B", ("matches", SOME))), (0,))
        self.assertEqual(house.contract(0)[4], ("B", ()))


class Contracts(Case):
    def test_numbers_that_are_negative_or_too_great(self):
        house = open_house(kind=EMPTY)
        for number in (1, -1, -2, 4, 10 ** 20, -10 ** 20):
            self.refuse(house, ("contract", number, 0, 0), "Unknown", name="pipeline")
            self.refuse(house, ("contract", number, number, 0), "Unknown", name="pipeline")
            self.refuse(house, ("contract", 0, number, 0), "Unknown", name="kind")
            self.refuse(house, ("deliver", number, ()), "Unknown", name="contract")
        house = Clearinghouse("a", RATES)
        self.refuse(house, ("contract", 0, 0, 0), "Unknown", name="pipeline")
        house.execute(("pipeline", COPYING))
        self.refuse(house, ("contract", 0, 0, 0), "Unknown", name="kind")

    def test_eight_contracts_and_a_ninth_one(self):
        house = open_house(kind=EMPTY)
        for number in range(8):
            self.assertEqual(house.execute(("contract", 0, 0, number)), number)
        self.assertEqual(house.active, tuple(range(8)))
        self.refuse(house, ("contract", 0, 0, 0), "TooMany")
        self.refuse(house, ("contract", 1, 0, 0), "Unknown", name="pipeline")
        self.refuse(house, ("contract", 0, 1, 0), "Unknown", name="kind")
        self.assertEqual([house.contract(number)[2] for number in range(8)], list(range(8)))

    def test_too_many_comes_before_too_large_and_the_rest(self):
        house = open_house(kind=EMPTY)
        house.execute(("kind", TWELVES))
        house.execute(("pipeline", ((rule(FIVES), rule(SEVENS)),)))
        self.refuse(house, ("contract", 1, 1, 0), "TooLarge", stage=None)
        for _ in range(8):
            house.execute(("contract", 0, 0, 0))
        self.refuse(house, ("contract", 1, 1, 0), "TooMany")
        self.refuse(house, ("contract", 0, 1, 0), "TooMany")

    def test_too_large_comes_before_fees_and_terms(self):
        house = house_with(("kind", TWELVES), ("pipeline", ((rule(FIVES), rule(SEVENS)),)))
        self.refuse(house, ("contract", 0, 0, 0), "TooLarge", stage=None)
        with self.assertRaises(errors.TooLarge):
            house.least_fee(0, 0)

    def test_fees_that_just_cover_the_royalties(self):
        house = open_house(kind=either(then(A, A, B), then(B, A, B, B, B)))
        self.refuse(house, ("contract", 0, 0, 10), "FeeTooLow", document=("Aa", "Aa", "Ba"))
        self.assertEqual(house.execute(("contract", 0, 0, 11)), 0)
        self.refuse(house, ("contract", 0, 0, 8), "FeeTooLow", document=("Aa", "Aa", "Ba"))
        self.assertEqual(house.execute(("contract", 0, 0, 1000000)), 1)
        only = open_house(kind=either(then(A, A, B), then(B, A, B, B, B)), rates=(("A", 1), ("B", 2)))
        self.refuse(only, ("contract", 0, 0, 8), "FeeTooLow", document=("Ba", "Aa", "Ba", "Ba", "Ba"))
        self.assertEqual(only.execute(("contract", 0, 0, 9)), 0)

    def test_symbols_of_the_editor_cost_nothing(self):
        house = open_house(kind=then(A, B), pipeline=((rule(output="aaa"),),))
        self.assertEqual(house.execute(("contract", 0, 0, 0)), 0)
        marked = open_house(kind=then(A, B), pipeline=MARKING)
        self.refuse(marked, ("contract", 0, 0, 5), "FeeTooLow", document=("Aa", "Ba"))
        self.assertEqual(marked.execute(("contract", 0, 0, 6)), 0)

    def test_fees_for_documents_of_60_and_of_61_symbols(self):
        house = open_house(kind=star(A), rates=(("A", 1),))
        self.refuse(house, ("contract", 0, 0, 59), "FeeTooLow", document=("Aa",) * 60)
        self.refuse(house, ("contract", 0, 0, 60), "FeeTooLow", document=None)
        self.refuse(house, ("contract", 0, 0, 1000000), "FeeTooLow", document=None)
        free = open_house(kind=star(A), rates=(("A", 0),))
        self.assertEqual(free.execute(("contract", 0, 0, 0)), 0)

    def test_fees_come_before_terms(self):
        house = house_with(("kind", then(ALL, B)), ("pipeline", COPYING))
        self.refuse(house, ("contract", 0, 0, 0), "FeeTooLow", document=("Ba",))
        house = house_with(("kind", then(A, B)), ("pipeline", COPYING))
        self.refuse(house, ("contract", 0, 0, 5), "FeeTooLow", document=("Aa", "Ba"))
        self.refuse(house, ("contract", 0, 0, 6), "BreaksTerms", owner="A", document=("Aa", "Ba"))

    def test_the_first_owner_whose_terms_would_be_broken(self):
        house = house_with(("kind", either(B, then(A, A))), ("pipeline", COPYING))
        self.refuse(house, ("contract", 0, 0, 10), "BreaksTerms", owner="A", document=("Aa", "Aa"))
        house.execute(("consent", "A", FREELY))
        self.refuse(house, ("contract", 0, 0, 10), "BreaksTerms", owner="B", document=("Ba",))
        house.execute(("consent", "B", ("share", "A", 1, 2)))
        self.refuse(house, ("contract", 0, 0, 10), "BreaksTerms", owner="B", document=("Aa", "Aa"))
        house.execute(("consent", "B", ("share", "A", 1, 1)))
        self.assertEqual(house.execute(("contract", 0, 0, 10)), 0)

    def test_terms_that_documents_of_60_and_of_61_symbols_break(self):
        house = open_house(kind=star(A), rates=(("A", 0),))
        house.execute(("consent", "A", ("sum", (("A", 1),), 59)))
        self.refuse(house, ("contract", 0, 0, 0), "BreaksTerms", owner="A", document=("Aa",) * 60)
        house.execute(("consent", "A", ("sum", (("A", 1),), 60)))
        self.refuse(house, ("contract", 0, 0, 0), "BreaksTerms", owner="A", document=None)

    def test_contracts_of_any_kind_and_pipeline(self):
        house = open_house(kind=star(B), pipeline=DROPPING)
        house.execute(("kind", then(A, B)))
        house.execute(("pipeline", COPYING))
        self.assertEqual(house.execute(("contract", 0, 0, 3)), 0)
        self.assertEqual(house.execute(("contract", 1, 1, 6)), 1)
        self.assertEqual(house.execute(("contract", 0, 1, 0)), 2)
        self.assertEqual(house.execute(("deliver", 1, ("Aa", "Ba"))), (("Aa", 0), ("Ba", 1)))
        self.assertEqual(house.execute(("deliver", 2, ("Aa", "Ba"))), ())
        self.assertEqual([house.contract(number) for number in range(3)],
                         [(0, 0, 3, 0, None), (1, 1, 6, 1, None), (0, 1, 0, 1, None)])


class Deliveries(Case):
    def test_fees_balance_and_what_is_owed(self):
        house = open_house(kind=SHORT, pipeline=MARKING)
        house.execute(("contract", 0, 0, 10))
        self.assertEqual(house.execute(("deliver", 0, ("Ba", "Aa"))), (("@a", 0), ("Ba", 0), ("@a", 1), ("Aa", 1)))
        self.assertEqual(house.accounts, (10, 4, (("A", 5), ("B", 1)), (("A", 0), ("B", 0))))
        self.assertEqual(house.execute(("deliver", 0, ("Aa", "Aa"))), (("@a", 0), ("Aa", 0), ("@a", 1), ("Aa", 1)))
        self.assertEqual(house.accounts, (20, 4, (("A", 15), ("B", 1)), (("A", 0), ("B", 0))))
        self.assertEqual(house.contract(0), (0, 0, 10, 2, None))
        self.assertEqual(house.execute(("settle", "A")), 15)
        self.assertEqual(house.accounts, (20, 4, (("A", 0), ("B", 1)), (("A", 15), ("B", 0))))

    def test_excerpts_that_are_empty(self):
        house = open_house(kind=SHORT, pipeline=DROPPING)
        house.execute(("contract", 0, 0, 3))
        self.assertEqual(house.execute(("deliver", 0, ("Ba", "Aa"))), ())
        self.assertEqual(house.execute(("deliver", 0, ())), ())
        self.assertEqual(house.accounts, (6, 6, (("A", 0), ("B", 0)), (("A", 0), ("B", 0))))
        self.assertEqual(house.contract(0)[3], 2)

    def test_documents_that_are_not_of_the_kind(self):
        house = open_house(kind=then(A, star(B)), rates=(("A", 5), ("B", 0)))
        house.execute(("contract", 0, 0, 5))
        for document in ((), ("Ba",), ("Aa", "Aa"), ("Ab",), ("@a",), ("Aa", "@a"), ("Zz",), ("Aa", "Zz"),
                         ("Aa",) + ("Ba",) * 98 + ("Aa",)):
            self.refuse(house, ("deliver", 0, document), "NotOfKind")

    def test_the_order_of_the_errors(self):
        house = open_house(kind=then(A, star(B)), rates=(("A", 5), ("B", 0)))
        house.execute(("contract", 0, 0, 5))
        house.execute(("withdraw", "A"))
        self.refuse(house, ("deliver", 1, ("Zz",)), "Unknown", name="contract")
        self.refuse(house, ("deliver", 0, ("Zz",)), "Suspended", owner="A", document=("Aa",))
        self.refuse(house, ("deliver", 0, ("Aa",)), "Suspended", owner="A", document=("Aa",))
        house.execute(("consent", "A", FREELY))
        self.refuse(house, ("deliver", 0, ("Zz",)), "NotOfKind")

    def test_long_documents_are_delivered(self):
        house = open_house(pipeline=PIPELINE, rates=(("A", 0), ("B", 0)))
        house.execute(("contract", 0, 0, 1000000))
        document = ("Aa", "Ba") * 50
        self.assertEqual(house.execute(("deliver", 0, document)), excerpt(PIPELINE, document))
        self.assertEqual(house.accounts[:2], (1000000, 1000000))

    def test_pipelines_of_several_stages(self):
        pipeline = ((rule(then(ALL, B), output="b$"), rule()), (rule(target=of("@")), rule(target=A)))
        house = open_house(kind=then(ANY, ANY, ANY), pipeline=pipeline, letters="ab")
        house.execute(("contract", 0, 0, 15))
        self.assertEqual(house.execute(("deliver", 0, ("Ba", "Ab", "Bb"))), (("@b", 1), ("Ab", 1)))
        self.assertEqual(house.accounts, (15, 10, (("A", 5), ("B", 0)), (("A", 0), ("B", 0))))


class Settlements(Case):
    def test_settlements_of_nothing(self):
        house = Clearinghouse("a", RATES)
        self.assertEqual(house.execute(("settle", "B")), 0)
        self.assertEqual(house.accounts, (0, 0, (("A", 0), ("B", 0)), (("A", 0), ("B", 0))))
        self.assertEqual(house.log, (("settle", "B"),))

    def test_amounts_add_up(self):
        house = open_house(kind=then(A, B))
        house.execute(("contract", 0, 0, 6))
        for _ in range(3):
            house.execute(("deliver", 0, ("Aa", "Ba")))
        self.assertEqual(house.execute(("settle", "A")), 15)
        self.assertEqual(house.execute(("settle", "A")), 0)
        house.execute(("deliver", 0, ("Aa", "Ba")))
        self.assertEqual(house.execute(("settle", "A")), 5)
        self.assertEqual(house.accounts, (24, 0, (("A", 0), ("B", 4)), (("A", 20), ("B", 0))))


class Certificates(Case):
    def test_canonical_certificates(self):
        house = open_house(pipeline=PIPELINE, rates=(("A", 0), ("B", 0)))
        house.execute(("consent", "A", HALF))
        house.execute(("consent", "B", ("matches", no(then(ALL, A, A, ALL)))))
        house.execute(("contract", 0, 0, 0))
        self.assertEqual(house.certificate(0, "A"), (0, -1))
        self.assertEqual(house.certificate(0, "B"), ((0,), (0, 1)))
        kind = ("a", "AB", ALL)
        self.assertIsNone(check_certificate(kind, PIPELINE, HALF, house.certificate(0, "A")))

    def test_terms_that_are_broken(self):
        house = open_house(pipeline=PIPELINE, rates=(("A", 0), ("B", 0)))
        house.execute(("contract", 0, 0, 0))
        house.execute(("consent", "A", THIRD))
        self.assertIsNone(house.certificate(0, "A"))
        # The contract is suspended, but the terms of the other owner hold.
        self.assertEqual(house.certificate(0, "B"), ((0,), (0,)))
        house.execute(("consent", "A", HALF))
        self.assertEqual(house.certificate(0, "A"), (0, -1))

    def test_kinds_without_a_document(self):
        house = house_with(("kind", NEVER), ("pipeline", COPYING), ("contract", 0, 0, 0))
        self.assertEqual((house.certificate(0, "A"), house.certificate(0, "B")), ((), ()))

    def test_unknown_contracts_and_owners(self):
        house = house_with(("kind", EMPTY), ("pipeline", COPYING), ("contract", 0, 0, 0))
        for number, owner, name in ((1, "A", "contract"), (-1, "Z", "contract"), (9, "", "contract"), (0, "Z", "Z"),
                                    (0, "AB", "AB"), (0, "", ""), (0, "@", "@")):
            with self.assertRaises(errors.Unknown) as caught:
                house.certificate(number, owner)
            self.assertEqual(caught.exception.name, name)

    def test_what_decide_tells(self):
        dice = dice_for("certificates of contracts")
        for _ in range(40):
            policies = [random_policy(dice, "@AB", 4) for _ in range(2)]
            house = open_house(kind=SHORT, pipeline=MARKING, rates=(("A", 0), ("B", 0)))
            house.execute(("contract", 0, 0, 0))
            for owner, policy in zip("AB", policies):
                house.execute(("consent", owner, policy))
            for owner, policy in zip("AB", policies):
                found = decide(("a", "AB", SHORT), MARKING, policy)
                self.assertEqual(house.certificate(0, owner), found[1])
            broken = [owner for owner, policy in zip("AB", policies) if not decide(("a", "AB", SHORT), MARKING, policy)[0]]
            self.assertEqual(house.active, () if broken else (0,))
            self.assertEqual(house.contract(0)[4] and house.contract(0)[4][0], broken[0] if broken else None)


class LeastFee(Case):
    def test_nothing_to_pay(self):
        for house in (open_house(kind=NEVER), open_house(kind=EMPTY), open_house(pipeline=DROPPING),
                      open_house(pipeline=((rule(output="a"),),)), open_house(rates=(("A", 0), ("B", 0)))):
            self.assertEqual(house.least_fee(0, 0), 0)
            self.assertEqual(house.execute(("contract", 0, 0, 0)), 0)

    def test_some_amount(self):
        house = open_house(kind=either(then(A, A, B), then(B, A, B, B, B)))
        self.assertEqual(house.least_fee(0, 0), 11)
        self.refuse(house, ("contract", 0, 0, 10), "FeeTooLow")
        great = open_house(kind=then(*[ANY] * 8), pipeline=((rule(output="$$$"),),) * 3, rates=(("A", 999), ("B", 998)))
        self.assertEqual(great.least_fee(0, 0), 999 * 27 * 8)

    def test_none(self):
        for pipeline in (COPYING, PIPELINE, MARKING):
            self.assertIs(open_house(pipeline=pipeline).least_fee(0, 0), None)

    def test_terms_do_not_count(self):
        house = house_with(("kind", then(A, B)), ("pipeline", COPYING))
        self.assertEqual(house.least_fee(0, 0), 6)
        self.assertEqual(len(house), 2)

    def test_unknown_numbers(self):
        house = open_house()
        for pipeline, kind, name in ((1, 0, "pipeline"), (-1, 7, "pipeline"), (0, 1, "kind"), (0, -1, "kind")):
            with self.assertRaises(errors.Unknown) as caught:
                house.least_fee(pipeline, kind)
            self.assertEqual(caught.exception.name, name)

    def test_a_graph_that_is_too_large(self):
        house = house_with(("kind", TWELVES), ("pipeline", ((rule(FIVES), rule(SEVENS)),)))
        with self.assertRaises(errors.TooLarge) as caught:
            house.least_fee(0, 0)
        self.assertIsNone(caught.exception.stage)


COMMANDS = (("kind", SHORT), ("pipeline", PIPELINE), ("consent", "A", HALF), ("consent", "B", FREELY), ("contract", 0, 0, 6),
            ("deliver", 0, ("Aa", "Ba")), ("consent", "A", THIRD), ("withdraw", "B"), ("consent", "B", HALF),
            ("consent", "A", HALF), ("withdraw", "A"), ("settle", "A"), ("consent", "A", FREELY), ("kind", EMPTY),
            ("contract", 0, 1, 0), ("deliver", 1, ()), ("settle", "B"), ("settle", "B"))


class Log(Case):
    def test_the_log_and_the_container(self):
        house = Clearinghouse("a", RATES)
        for at, command in enumerate(COMMANDS):
            self.assertIs(command in house, command in COMMANDS[:at])
            house.execute(command)
            self.assertEqual((house.log, len(house), list(house)), (COMMANDS[:at + 1], at + 1, list(COMMANDS[:at + 1])))
            self.assertIs(command in house, True)
        for command in (("settle", "Z"), ("kind", ALL), ("deliver", 0, ()), ("contract", 0, 0, 7), ("consent", "A")):
            self.assertIs(command in house, False)
        self.assertIs(("deliver", 0, ("Aa", "Ba")) in house, True)

    def test_undoing_each_command(self):
        house = Clearinghouse("a", RATES)
        states = [state(house)]
        for command in COMMANDS:
            house.execute(command)
            states.append(state(house))
            # Taken back, and executed once more.
            self.assertIs(house.undo(), True)
            self.assertEqual(state(house), states[-2])
            house.execute(command)
            self.assertEqual(state(house), states[-1])
        for before in states[-2::-1]:
            self.assertIs(house.undo(), True)
            self.assertEqual(state(house), before)
        for _ in range(2):
            self.assertIs(house.undo(), False)
            self.assertEqual(state(house), states[0])
        for at, command in enumerate(COMMANDS):
            house.execute(command)
            self.assertEqual(state(house), states[at + 1])

    def test_certificates_and_least_fees_after_undoing(self):
        house = open_house(kind=SHORT, pipeline=PIPELINE)
        house.execute(("contract", 0, 0, 6))
        found = house.certificate(0, "A"), house.least_fee(0, 0)
        house.execute(("withdraw", "A"))
        self.assertIsNone(house.certificate(0, "A"))
        house.undo()
        self.assertEqual((house.certificate(0, "A"), house.least_fee(0, 0)), found)
        house.undo()
        with self.assertRaises(errors.Unknown):
            house.certificate(0, "A")

    def test_asking_changes_nothing(self):
        house = open_house(kind=SHORT, pipeline=PIPELINE)
        house.execute(("contract", 0, 0, 6))
        before = state(house)
        house.certificate(0, "B")
        house.least_fee(0, 0)
        for call in (lambda: house.certificate(1, "A"), lambda: house.contract(-1), lambda: house.least_fee(3, 3)):
            with self.assertRaises(errors.Unknown):
                call()
        self.assertEqual(state(house), before)

    def test_an_error_leaves_what_can_be_undone(self):
        house = open_house(kind=SHORT)
        with self.assertRaises(errors.FeeTooLow):
            house.execute(("contract", 0, 0, 9))
        self.assertIs(house.undo(), True)
        self.assertEqual(house.log[-1], ("consent", "A", FREELY))

    def test_a_log_of_many_commands(self):
        house = open_house(kind=then(A, B))
        house.execute(("contract", 0, 0, 6))
        for _ in range(1000):
            house.execute(("deliver", 0, ("Aa", "Ba")))
        self.assertEqual(house.accounts, (6000, 0, (("A", 5000), ("B", 1000)), (("A", 0), ("B", 0))))
        for _ in range(1000):
            house.undo()
        self.assertEqual(house.accounts[:2], (0, 0))
        self.assertEqual(house.contract(0)[3], 0)


class Runs(Case):
    """Random commands, compared with a house word by word."""

    KINDS = (SHORT, then(A, B), either(B, then(A, ANY)), EMPTY, NEVER, FOURTH, both(then(ANY, ANY, ANY), no(then(ALL, A))))
    PIPELINES = (COPYING, PIPELINE, MARKING, DROPPING, ((rule(B, output="$a"), rule(after=B, output="b")),), (LARGE,),
                 (COPYING[0], LARGE), ((rule(output="$$"),), (rule(SOME),)))

    def test_random_commands(self):
        names = []
        for number in range(60):
            dice = dice_for(("house", number).__repr__())
            rates = dice.choice([RATES, (("A", 0), ("B", 3)), (("A", 2), ("B", 0), ("C", 1))])
            names += self.run_once(dice, "ab", rates, 60)[0]
        for name in ("TooComplex", "TooMany", "Unknown", "TooLarge", "FeeTooLow", "BreaksTerms", "Suspended", "NotOfKind",
                     "kind", "pipeline", "consent", "withdraw", "contract", "deliver", "settle"):
            self.assertIn(name, names)

    def run_once(self, dice, letters, rates, times):
        house, model = Clearinghouse(letters, rates), Model(letters, rates)
        for command in (("kind", dice.choice(self.KINDS[:3])), ("pipeline", dice.choice(self.PIPELINES[:3]))):
            self.step(house, model, command)
        for owner, _ in rates:
            if dice.random() < 0.8:
                self.step(house, model, ("consent", owner, FREELY))
        names = []
        for _ in range(times):
            if dice.random() < 0.1:
                self.assertIs(house.undo(), model.undo())
            else:
                names.append(self.step(house, model, self.command(dice, model)))
            self.compare(house, model)
        return names, house

    def step(self, house, model, command):
        expected = model.execute(command)
        if expected[0] == "done":
            self.assertEqual(house.execute(command), expected[1], (model.log, command))
            return command[0]
        before = state(house)
        with self.assertRaises(getattr(errors, expected[1]), msg=(model.log, command)) as caught:
            house.execute(command)
        self.assertEqual({name: getattr(caught.exception, name) for name in expected[2]}, expected[2])
        self.assertEqual(state(house), before)
        return expected[1]

    def command(self, dice, model):
        name = dice.choice(["kind", "pipeline", "consent", "consent", "withdraw", "contract", "contract", "contract",
                            "deliver", "deliver", "deliver", "settle"])
        owner = dice.choice(list(model.rates) * 5 + ["Z", "", "@"])
        if name == "kind":
            return (name, dice.choice(self.KINDS))
        if name == "pipeline":
            return (name, dice.choice(self.PIPELINES))
        if name == "consent":
            return (name, owner, dice.choice([FREELY, FREELY, FREELY, HALF, THIRD, ("matches", FOURTH),
                                              ("matches", no(then(ALL, B, B))), ("sum", (("@", 2), ("A", 1)), 2),
                                              ("share", "@AB", 1, 1), ("share", "@", 1, 2)]))
        if name == "contract":
            return (name, self.number(dice, model.pipelines), self.number(dice, model.kinds),
                    dice.choice([0, 3, 6, 10, 15, 100]))
        if name == "deliver":
            number = self.number(dice, model.contracts)
            if number in range(len(model.contracts)) and dice.random() < 0.7:
                told = model.excerpts(*model.contracts[number][:2])
                return (name, number, dice.choice(told)[0] if told else ())
            return (name, number, random_sequence(dice, model.reads, dice.randint(0, 3)))
        return (name, owner)

    def number(self, dice, row):
        """The number of something, seldom one that there is not."""
        return dice.randrange(len(row)) if row and dice.random() < 0.9 else dice.choice([-1, len(row), 99])

    def compare(self, house, model):
        self.assertEqual(house.accounts, model.accounts())
        self.assertGreaterEqual(house.accounts[1], 0)
        fees, balance, owed, paid = house.accounts
        self.assertEqual(fees, balance + sum(amount for _, amount in owed + paid))
        self.assertEqual(house.terms, tuple(sorted(model.terms.items())))
        self.assertEqual((house.log, len(house)), (tuple(model.log), len(model.log)))
        found = [model.contract(number) for number in range(len(model.contracts))]
        self.assertEqual([house.contract(number) for number in range(len(found))], found)
        self.assertEqual(house.active, tuple(number for number, row in enumerate(found) if row[4] is None))
        for pipeline in range(len(model.pipelines)):
            for kind in range(len(model.kinds)):
                self.assertEqual(house.least_fee(pipeline, kind), model.greatest_royalties(pipeline, kind))


if __name__ == "__main__":
    unittest.main()
