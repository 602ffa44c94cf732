"""Two-way machines: [100], [101], [106] and excerptcheck/twoway.py in the interface."""

import unittest

from excerptcheck.least import least_form
from excerptcheck.twoway import identity, left_states, right_states, run
from oracles import SEVERAL, chain, cycle, is_least_form, pairs_of, put_out, random_machine, told_by
from samples import EVERY_SYMBOL, dice_for, has_flags, is_plain, random_sequence, sequences

TWO = ("Aa", "Ba")
COPY = (TWO, ((0, 0),), ((0, 1), (0, 1)), ((((), ("Aa",)), (("Ba",), ("Ba",))),))


def random_machines(name, many, most=4):
    dice = dice_for(name)
    for _ in range(many):
        reads = dice.choice([("Zz",), TWO, ("@a", "Ab", "Bz")])
        yield random_machine(dice, reads, dice.randint(1, most), dice.randint(1, most), writes=("Aa", "@q", "Zz"))


class Running(unittest.TestCase):
    def test_the_example_of_the_document(self):
        self.assertEqual(run(COPY, ("Aa", "Aa", "Ba", "Aa")), (("Aa", 1), ("Ba", 2)))

    def test_the_empty_sequence(self):
        for machine in random_machines("empty", 20):
            self.assertEqual(run(machine, ()), ())
            self.assertEqual(left_states(machine, ()), (0,))
            self.assertEqual(right_states(machine, ()), (0,))

    def test_one_symbol_stands_behind_and_before_nothing(self):
        machine = (TWO, ((1, 1), (1, 1)), ((1, 1), (1, 1)),
                   (((("Aa",), ("Ab",)), (("Ba",), ("Bb",))), ((("Ca",), ("Cb",)), (("Da",), ("Db",)))))
        self.assertEqual(run(machine, ("Aa",)), (("Aa", 0),))
        self.assertEqual(run(machine, ("Ba",)), (("Ba", 0),))
        self.assertEqual(run(machine, ("Aa", "Ba")), (("Ab", 0), ("Da", 1)))
        self.assertEqual(run(machine, ("Ba", "Aa", "Ba")), (("Bb", 0), ("Cb", 1), ("Da", 2)))

    def test_several_symbols_for_one_have_one_origin(self):
        machine = (("Aa",), ((0,),), ((1,), (1,)), (((("@b", "@b", "Zz"), ()),),))
        self.assertEqual(run(machine, ("Aa", "Aa")), (("@b", 1), ("@b", 1), ("Zz", 1)))

    def test_random_machines(self):
        for machine in random_machines("running", 80):
            for sequence in sequences(machine[0], 4):
                found = run(machine, sequence)
                self.assertEqual(found, pairs_of(put_out(machine, sequence)))
                self.assertTrue(is_plain(found) and not has_flags(found))

    def test_40_left_and_40_right_states_over_12_symbols(self):
        dice = dice_for("40 and 40")
        machine = random_machine(dice, SEVERAL, 40, 40, EVERY_SYMBOL, 27)
        for many in (1, 2, 30, 100):
            sequence = random_sequence(dice, SEVERAL, many)
            self.assertEqual(run(machine, sequence), pairs_of(put_out(machine, sequence)))

    def test_an_output_of_27_symbols(self):
        long = EVERY_SYMBOL[:27]
        machine = (TWO, ((0, 0),), ((0, 0),), (((long,), ((),)),))
        self.assertEqual(run(machine, ("Ba", "Aa", "Aa")), pairs_of(((), long, long)))

    def test_empty_outputs(self):
        machine = (TWO, cycle(TWO, 3), cycle(TWO, 2), (((((), ()),) * 2),) * 3)
        self.assertEqual(run(machine, ("Aa", "Ba") * 50), ())


class States(unittest.TestCase):
    def test_examples(self):
        self.assertEqual(right_states(COPY, ("Aa", "Ba")), (0, 1, 0))
        self.assertEqual(left_states(COPY, ("Aa", "Ba")), (0, 0, 0))
        self.assertEqual(right_states(COPY, ("Aa", "Aa", "Ba", "Aa")), (0, 0, 1, 0, 0))

    def test_left_states_are_found_from_the_first_symbol_on(self):
        machine = told_by(TWO, ((0, 1), (2, 1), (2, 2)), ((0, 0),), lambda before, symbol, behind: ())
        self.assertEqual(left_states(machine, ("Ba", "Aa")), (0, 1, 2))
        self.assertEqual(left_states(machine, ("Aa", "Ba")), (0, 0, 1))

    def test_right_states_are_found_from_the_last_symbol_on(self):
        machine = told_by(TWO, ((0, 0),), ((0, 1), (2, 1), (2, 2)), lambda before, symbol, behind: ())
        self.assertEqual(right_states(machine, ("Ba", "Aa")), (1, 0, 0))
        self.assertEqual(right_states(machine, ("Aa", "Ba")), (2, 1, 0))

    def test_random_machines(self):
        for machine in random_machines("states", 60):
            reads, left, right, _ = machine
            for sequence in sequences(reads, 4):
                lefts, rights = [0], [0]
                for symbol in sequence:
                    lefts.append(left[lefts[-1]][reads.index(symbol)])
                for symbol in reversed(sequence):
                    rights.insert(0, right[rights[0]][reads.index(symbol)])
                self.assertEqual(left_states(machine, sequence), tuple(lefts))
                self.assertEqual(right_states(machine, sequence), tuple(rights))

    def test_100_symbols(self):
        machine = told_by(("Aa",), cycle(("Aa",), 40), chain(("Aa",), 40), lambda before, symbol, behind: ())
        lefts = left_states(machine, ("Aa",) * 100)
        rights = right_states(machine, ("Aa",) * 100)
        self.assertEqual(lefts, tuple(many % 40 for many in range(101)))
        self.assertEqual(rights, tuple(min(100 - many, 39) for many in range(101)))
        self.assertTrue(is_plain((lefts, rights)) and not has_flags((lefts, rights)))


class Identity(unittest.TestCase):
    def test_example(self):
        self.assertEqual(identity(TWO), (TWO, ((0, 0),), ((0, 0),), (((("Aa",),), (("Ba",),)),)))

    def test_one_symbol_and_12_symbols(self):
        self.assertEqual(identity(("@z",)), (("@z",), ((0,),), ((0,),), (((("@z",),),),)))
        for reads in (("@z",), SEVERAL):
            found = identity(reads)
            self.assertTrue(is_plain(found) and not has_flags(found))
            self.assertTrue(is_least_form(found))
            self.assertEqual(least_form(found), found)
            sequence = random_sequence(dice_for("identity"), reads, 100)
            self.assertEqual(run(found, sequence), tuple((symbol, at) for at, symbol in enumerate(sequence)))


if __name__ == "__main__":
    unittest.main()
