"""Acceptors: [60] to [63], the order of [21], and excerptcheck/acceptors.py in the interface."""

import unittest

from excerptcheck.acceptors import accepts, first_accepted, first_sequences, minimal, parting, states_along
from oracles import (SEVERAL, blown_up, chain, cycle, firsts_of, is_least, random_acceptor, state_after, takes,
                     twins)
from samples import dice_for, has_flags, is_plain, random_sequence, sequences

TWO = ("Aa", "Ba")
EXAMPLE = (TWO, ((1, 0), (2, 3), (1, 3), (2, 0)), (1, 2))
LEAST = (TWO, ((1, 0), (1, 0)), (1,))
ALL_OF_ONE_STATE = (TWO, ((0, 0),), (0,))
NONE_OF_ONE_STATE = (TWO, ((0, 0),), ())


def random_acceptors(name, many, most=8):
    dice = dice_for(name)
    for _ in range(many):
        reads = dice.choice([("Aa",), TWO, ("@a", "Ab", "Zz")])
        yield random_acceptor(dice, reads, dice.randint(1, most), dice.choice([0.2, 0.5, 0.8]))


class Reading(unittest.TestCase):
    def test_the_example_of_the_document(self):
        for text in (("Aa",), ("Aa", "Aa"), ("Ba", "Aa")):
            self.assertIs(accepts(EXAMPLE, text), True)
        self.assertIs(accepts(EXAMPLE, ("Aa", "Ba")), False)
        self.assertEqual(states_along(EXAMPLE, ("Aa", "Aa", "Aa", "Ba", "Ba")), (0, 1, 2, 1, 3, 0))

    def test_the_empty_sequence(self):
        self.assertEqual(states_along(EXAMPLE, ()), (0,))
        self.assertIs(accepts(EXAMPLE, ()), False)
        self.assertIs(accepts((TWO, ((1, 1), (1, 1)), (0,)), ()), True)

    def test_one_state(self):
        for sequence in sequences(TWO, 3):
            self.assertIs(accepts(ALL_OF_ONE_STATE, sequence), True)
            self.assertIs(accepts(NONE_OF_ONE_STATE, sequence), False)
            self.assertEqual(states_along(ALL_OF_ONE_STATE, sequence), (0,) * (len(sequence) + 1))

    def test_random_acceptors(self):
        for acceptor in random_acceptors("reading", 60):
            for sequence in sequences(acceptor[0], 4):
                states = tuple(state_after(acceptor, sequence[:at]) for at in range(len(sequence) + 1))
                self.assertEqual(states_along(acceptor, sequence), states)
                self.assertIs(accepts(acceptor, sequence), states[-1] in acceptor[2])

    def test_12_symbols_200_states_and_100_symbols(self):
        dice = dice_for("reading 200 states")
        acceptor = random_acceptor(dice, SEVERAL, 200)
        for many in (1, 50, 100):
            sequence = random_sequence(dice, SEVERAL, many)
            states = states_along(acceptor, sequence)
            self.assertEqual(states, tuple(state_after(acceptor, sequence[:at]) for at in range(many + 1)))
            self.assertTrue(is_plain(states) and not has_flags(states))
            self.assertIs(accepts(acceptor, sequence), takes(acceptor, sequence))


class FirstSequences(unittest.TestCase):
    def test_example(self):
        self.assertEqual(first_sequences((TWO, ((1, 0), (1, 0), (0, 0)), (1,))), ((), ("Aa",), None))

    def test_state_0_has_the_empty_sequence(self):
        self.assertEqual(first_sequences(ALL_OF_ONE_STATE), ((),))
        self.assertEqual(first_sequences((TWO, ((1, 1), (0, 0)), ())), ((), ("Aa",)))

    def test_a_shorter_sequence_comes_first_and_then_the_lesser_symbol(self):
        rows = ((2, 1), (3, 3), (2, 3), (3, 3))
        self.assertEqual(first_sequences((TWO, rows, ())), ((), ("Ba",), ("Aa",), ("Aa", "Ba")))
        rows = ((1, 2), (1, 1), (3, 2), (4, 3), (4, 4))
        self.assertEqual(first_sequences((TWO, rows, ())), ((), ("Aa",), ("Ba",), ("Ba", "Aa"), ("Ba", "Aa", "Aa")))

    def test_by_trying_all_sequences(self):
        for acceptor in random_acceptors("first sequences", 80, 6):
            first = {}
            for sequence in sequences(acceptor[0], 6):
                first.setdefault(state_after(acceptor, sequence), sequence)
            found = first_sequences(acceptor)
            self.assertEqual(found, tuple(first.get(state) for state in range(len(acceptor[1]))))
            self.assertTrue(is_plain(found))

    def test_200_states_in_a_chain(self):
        found = first_sequences((("Zz",), chain(("Zz",), 200), ()))
        self.assertEqual(found, tuple(("Zz",) * many for many in range(200)))

    def test_states_to_which_no_sequence_leads(self):
        rows = ((0,) * 12,) + tuple((state,) * 12 for state in range(199))
        self.assertEqual(first_sequences((SEVERAL, rows, (5,))), ((),) + (None,) * 199)

    def test_200_states_over_12_symbols(self):
        acceptor = random_acceptor(dice_for("200 states"), SEVERAL, 200)
        firsts = firsts_of(acceptor[1])
        words = [firsts.get(state) for state in range(200)]
        expected = tuple(None if word is None else tuple(SEVERAL[index] for index in word) for word in words)
        self.assertEqual(first_sequences(acceptor), expected)


class Least(unittest.TestCase):
    def check(self, acceptor, most=5):
        least = minimal(acceptor)
        self.assertTrue(is_least(least), (acceptor, least))
        self.assertTrue(is_plain(least) and not has_flags(least))
        self.assertEqual(least[0], acceptor[0])
        self.assertEqual(least[2], tuple(sorted(set(least[2]))))
        self.assertLessEqual(len(least[1]), len(acceptor[1]))
        for sequence in sequences(acceptor[0], most):
            self.assertIs(takes(least, sequence), takes(acceptor, sequence))
        self.assertEqual(minimal(least), least)
        return least

    def test_the_example_of_the_document(self):
        self.assertEqual(minimal(EXAMPLE), LEAST)
        self.assertEqual(minimal(LEAST), LEAST)

    def test_one_state(self):
        self.assertEqual(minimal(ALL_OF_ONE_STATE), ALL_OF_ONE_STATE)
        self.assertEqual(minimal(NONE_OF_ONE_STATE), NONE_OF_ONE_STATE)

    def test_all_states_accept_and_none_does(self):
        for reads in (("Aa",), TWO, SEVERAL):
            acceptor = random_acceptor(dice_for("all or none"), reads, 200)
            every = tuple(range(200))
            self.assertEqual(minimal((reads, acceptor[1], every)), (reads, ((0,) * len(reads),), (0,)))
            self.assertEqual(minimal((reads, acceptor[1], ())), (reads, ((0,) * len(reads),), ()))

    def test_states_to_which_no_sequence_leads_are_left_out(self):
        self.assertEqual(minimal((TWO, ((0, 0), (0, 1)), (1,))), NONE_OF_ONE_STATE)
        self.assertEqual(minimal((TWO, ((2, 0), (1, 0), (2, 0)), (1, 2))), LEAST)
        self.assertEqual(minimal((TWO, ((0, 0), (2, 1), (1, 2)), (0, 2))), ALL_OF_ONE_STATE)

    def test_states_are_numbered_in_the_order_of_their_first_sequences(self):
        least = (TWO, ((1, 2), (3, 1), (1, 3), (0, 0)), (2, 3))
        self.assertTrue(is_least(least))
        for order in ((0, 2, 1, 3), (0, 3, 2, 1), (0, 3, 1, 2), (0, 1, 3, 2), (0, 2, 3, 1)):
            rows = [None] * 4
            for state, row in enumerate(least[1]):
                rows[order[state]] = tuple(order[after] for after in row)
            accepting = tuple(sorted(order[state] for state in least[2]))
            self.assertEqual(minimal((TWO, tuple(rows), accepting)), least)

    def test_states_that_only_a_long_sequence_tells_apart(self):
        for many in (2, 10, 200):
            rows = cycle(("Aa",), many)
            self.assertEqual(minimal((("Aa",), rows, (many - 1,))), (("Aa",), rows, (many - 1,)))
            rows = chain(("Aa",), many)
            self.assertEqual(minimal((("Aa",), rows, (many - 1,))), (("Aa",), rows, (many - 1,)))

    def test_a_cycle_that_repeats(self):
        accepting = tuple(range(3, 200, 5))
        self.assertEqual(minimal((("Aa",), cycle(("Aa",), 200), accepting)), (("Aa",), cycle(("Aa",), 5), (3,)))

    def test_random_acceptors(self):
        for acceptor in random_acceptors("least", 150):
            self.check(acceptor)

    def test_acceptors_that_accept_the_same_have_one_least_acceptor(self):
        dice = dice_for("the same")
        for acceptor in random_acceptors("one least acceptor", 60):
            least = self.check(acceptor, 3)
            for states in (len(least[1]), len(least[1]) + 3, 40):
                self.assertEqual(minimal(blown_up(dice, least, states)), least)

    def test_200_states_over_12_symbols(self):
        dice = dice_for("200 states over 12 symbols")
        for states in (1, 7, 30, 60):
            least = minimal(random_acceptor(dice, SEVERAL, states))
            self.assertTrue(is_least(least))
            self.assertEqual(minimal(blown_up(dice, least, 200)), least)

    def test_what_is_passed_is_not_changed(self):
        acceptor = (TWO, ((1, 0), (2, 3), (1, 3), (2, 0)), (1, 2))
        minimal(acceptor)
        self.assertEqual(acceptor, EXAMPLE)


class FirstAccepted(unittest.TestCase):
    def test_the_example_of_the_document(self):
        self.assertEqual(first_accepted(EXAMPLE), ("Aa",))

    def test_nothing_is_accepted(self):
        self.assertIsNone(first_accepted(NONE_OF_ONE_STATE))
        self.assertIsNone(first_accepted((TWO, ((0, 0), (0, 1)), (1,))))
        self.assertIsNone(first_accepted((SEVERAL, random_acceptor(dice_for("none"), SEVERAL, 200)[1], ())))

    def test_the_empty_sequence(self):
        self.assertEqual(first_accepted(ALL_OF_ONE_STATE), ())
        self.assertEqual(first_accepted((TWO, ((1, 1), (1, 1)), (0, 1))), ())

    def test_the_first_in_order_and_not_the_state_with_the_least_number(self):
        self.assertEqual(first_accepted((TWO, ((3, 2), (1, 1), (2, 2), (1, 3)), (1, 2))), ("Ba",))
        self.assertEqual(first_accepted((TWO, ((2, 1), (1, 1), (2, 2)), (1, 2))), ("Aa",))
        self.assertEqual(first_accepted((TWO, ((1, 2), (1, 3), (4, 2), (3, 3), (4, 4)), (3, 4))), ("Aa", "Ba"))

    def test_a_long_one(self):
        self.assertEqual(first_accepted((SEVERAL, chain(SEVERAL, 200), (199,))), ("@a",) * 199)

    def test_random_acceptors(self):
        for acceptor in random_acceptors("first accepted", 150, 6):
            taken = [sequence for sequence in sequences(acceptor[0], 6) if takes(acceptor, sequence)]
            self.assertEqual(first_accepted(acceptor), taken[0] if taken else None)


class Parting(unittest.TestCase):
    def test_example(self):
        self.assertEqual(parting(LEAST, (TWO, ((1, 0), (1, 1)), (1,))), ("Aa", "Ba"))
        self.assertEqual(parting((TWO, ((1, 0), (1, 1)), (1,)), LEAST), ("Aa", "Ba"))

    def test_acceptors_that_accept_the_same(self):
        self.assertIsNone(parting(EXAMPLE, LEAST))
        self.assertIsNone(parting(EXAMPLE, EXAMPLE))
        self.assertIsNone(parting(NONE_OF_ONE_STATE, (TWO, ((0, 0), (0, 1)), (1,))))
        dice = dice_for("the same again")
        for acceptor in random_acceptors("parting nowhere", 40):
            self.assertIsNone(parting(acceptor, blown_up(dice, acceptor, 40)))
            self.assertIsNone(parting(blown_up(dice, acceptor, 30), acceptor))

    def test_200_states_that_accept_the_same(self):
        dice = dice_for("200 states that accept the same")
        acceptor = random_acceptor(dice, SEVERAL, 20)
        self.assertIsNone(parting(blown_up(dice, acceptor, 200), blown_up(dice, acceptor, 200)))

    def test_the_empty_sequence(self):
        self.assertEqual(parting(ALL_OF_ONE_STATE, NONE_OF_ONE_STATE), ())
        self.assertEqual(parting(NONE_OF_ONE_STATE, ALL_OF_ONE_STATE), ())

    def test_the_first_one_in_order(self):
        ends = (TWO, ((1, 2), (3, 3), (3, 3), (3, 3)), (1, 2))
        self.assertEqual(parting(ends, NONE_OF_ONE_STATE), ("Aa",))
        self.assertEqual(parting(ends, (TWO, ends[1], (1,))), ("Ba",))
        self.assertEqual(parting((TWO, ends[1], (1,)), (TWO, ends[1], (2,))), ("Aa",))

    def test_random_acceptors(self):
        dice = dice_for("parting")
        for first in random_acceptors("parting somewhere", 150, 5):
            second = random_acceptor(dice, first[0], dice.randint(1, 5))
            tried = sequences(first[0], 6)
            parted = [sequence for sequence in tried if takes(first, sequence) != takes(second, sequence)]
            found = parting(first, second)
            if parted:
                self.assertEqual(found, parted[0])
            else:
                self.assertTrue(found is None or len(found) > 6)

    def test_one_accepting_state_more(self):
        for acceptor in random_acceptors("one state more", 60, 6):
            more = (acceptor[0], acceptor[1], tuple(range(len(acceptor[1]))))
            refused = [sequence for sequence in sequences(acceptor[0], 6) if not takes(acceptor, sequence)]
            self.assertEqual(parting(acceptor, more), refused[0] if refused else None)

    def test_parting_late_in_a_chain(self):
        first = (("Aa",), chain(("Aa",), 200), (199,))
        second = (("Aa",), ((0,),), ())
        self.assertEqual(parting(first, second), ("Aa",) * 199)

    def test_parting_as_late_as_two_cycles_can(self):
        marks = twins(199, 200)
        first = (("Aa",), cycle(("Aa",), 199), tuple(state for state in range(199) if marks[state]))
        second = (("Aa",), cycle(("Aa",), 200), tuple(state for state in range(200) if marks[state]))
        self.assertEqual(parting(first, second), ("Aa",) * 397)


if __name__ == "__main__":
    unittest.main()
