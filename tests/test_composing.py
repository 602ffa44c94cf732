"""Two machines one behind the other: [104] to [106] and excerptcheck/composing.py in the interface."""

import unittest

from excerptcheck.composing import composed
from excerptcheck.errors import NotRead, TooLarge
from excerptcheck.least import least_form
from excerptcheck.twoway import identity, run
from oracles import (SEVERAL, chain, changed, cycle, is_least_form, one_behind_the_other, put_out, random_machine,
                     told_by)
from samples import EVERY_SYMBOL, dice_for, has_flags, is_plain, sequences

TWO = ("Aa", "Ba")
COPY = (TWO, ((0, 0),), ((0, 1), (0, 1)), ((((), ("Aa",)), (("Ba",), ("Ba",))),))
ONE = ("Aa",)
STAY = ((0,),)


def tail_and_cycle(tail, many):
    """Rows over one symbol that run through a tail first and then through a cycle."""
    states = tail + many
    return tuple((state + 1 if state + 1 < states else tail,) for state in range(states))


def for_both(rows):
    """The rows with the same following state for a second symbol."""
    return tuple(row * 2 for row in rows)


class Composing(unittest.TestCase):
    def check(self, first, second, most=4):
        found = composed(first, second)
        self.assertTrue(is_least_form(found), (first, second, found))
        self.assertTrue(is_plain(found) and not has_flags(found))
        self.assertEqual(found[0], first[0])
        for sequence in sequences(first[0], most):
            self.assertEqual(run(found, sequence), one_behind_the_other(first, second, sequence), (first, second))
        return found

    def test_the_example_of_the_document(self):
        self.assertEqual(composed(COPY, COPY), COPY)

    def test_the_identity_before_and_behind(self):
        for machine in (COPY, identity(TWO), identity(("Zz",))):
            self.assertEqual(composed(identity(machine[0]), machine), least_form(machine))
        self.assertEqual(composed(COPY, identity(TWO)), COPY)
        dice = dice_for("identity before and behind")
        for _ in range(40):
            machine = random_machine(dice, ("@a", "Ab"), dice.randint(1, 5), dice.randint(1, 5), ("Aa", "Zz"))
            self.assertEqual(composed(identity(("@a", "Ab")), machine), least_form(machine))
            self.assertEqual(composed(machine, identity(("Aa", "Zz"))), least_form(machine))
            self.assertEqual(composed(machine, identity(("@q", "Aa", "Bb", "Zz"))), least_form(machine))

    def test_what_is_put_out_gets_the_origin_of_the_symbol_it_is_put_out_for(self):
        doubling = told_by(ONE, STAY, STAY, lambda before, symbol, behind: ("Ba", "Bb"))
        marking = told_by(("Ba", "Bb"), for_both(chain(ONE, 2)), for_both(STAY),
                          lambda before, symbol, behind: ("@a", symbol) if before == 0 else (symbol,))
        found = self.check(doubling, marking)
        self.assertEqual(run(found, ONE * 2), (("@a", 0), ("Ba", 0), ("Bb", 0), ("Ba", 1), ("Bb", 1)))

    def test_what_the_second_machine_sees_behind_a_symbol(self):
        # The second machine copies the last symbol alone; the first one drops some symbols.
        last = told_by(TWO, ((0, 0),), ((1, 1), (1, 1)), lambda before, symbol, behind: (symbol,) * (behind == 0))
        first = told_by(TWO, ((0, 0),), ((0, 0),), lambda before, symbol, behind: (symbol,) * (symbol == "Aa"))
        found = self.check(first, last)
        self.assertEqual(run(found, ("Aa", "Aa", "Ba")), (("Aa", 1),))
        self.assertEqual(len(found[2]), 2)

    def test_what_is_put_out_depends_on_what_stands_behind(self):
        # How many symbols the first machine puts out in front depends on the end of the sequence.
        first = told_by(TWO, ((0, 0),), ((0, 1), (0, 1)), lambda before, symbol, behind: ("Aa",) * (1 + behind))
        second = told_by(ONE, cycle(ONE, 3), STAY, lambda before, symbol, behind: ("@a",) * before)
        self.check(first, second, 6)
        second = told_by(ONE, STAY, cycle(ONE, 3), lambda before, symbol, behind: ("@a",) * behind)
        self.check(first, second, 6)

    def test_nothing_is_put_out(self):
        nothing = told_by(TWO, cycle(TWO, 2), cycle(TWO, 2), lambda before, symbol, behind: ())
        least = (TWO, ((0, 0),), ((0, 0),), ((((),), ((),)),))
        self.assertEqual(composed(nothing, COPY), least)
        self.assertEqual(composed(COPY, nothing), least)
        self.assertEqual(composed(nothing, identity(("Zz",))), least)

    def test_random_machines(self):
        dice = dice_for("composing")
        done = 0
        for _ in range(200):
            reads = dice.choice([("Zz",), TWO, ("@a", "Ab", "Bz")])
            first = random_machine(dice, reads, dice.randint(1, 3), dice.randint(1, 3), TWO)
            second = random_machine(dice, TWO, dice.randint(1, 3), dice.randint(1, 3), ("Aa", "@z"))
            try:
                composed(first, second)
            except TooLarge:
                continue
            self.check(first, second)
            done += 1
        self.assertGreater(done, 50)

    def test_the_order_of_composing_does_not_matter(self):
        dice = dice_for("three machines")
        done = 0
        for _ in range(120):
            machines = [random_machine(dice, TWO, dice.randint(1, 2), dice.randint(1, 2), TWO, 1) for _ in range(3)]
            try:
                first_two = composed(composed(machines[0], machines[1]), machines[2])
                last_two = composed(machines[0], composed(machines[1], machines[2]))
            except TooLarge:
                continue
            self.assertEqual(first_two, last_two)
            done += 1
        self.assertGreater(done, 40)

    def test_machines_are_taken_by_what_they_do(self):
        dice = dice_for("least forms composed")
        for _ in range(40):
            first = random_machine(dice, TWO, 4, 2, TWO, 1)
            second = random_machine(dice, TWO, 2, 3, TWO, 1)
            wide = told_by(TWO, for_both(cycle(ONE, 40)), for_both(cycle(ONE, 40)),
                           lambda before, symbol, behind: (symbol,))
            try:
                expected = composed(first, second)
            except TooLarge:
                continue
            self.assertEqual(composed(least_form(first), least_form(second)), expected)
            self.assertEqual(composed(composed(first, wide), second), expected)
        self.assertEqual(composed(wide, wide), identity(TWO))

    def test_12_symbols(self):
        dice = dice_for("composing over 12 symbols")
        first = random_machine(dice, SEVERAL, 2, 2, SEVERAL, 1)
        self.check(first, identity(SEVERAL), 2)
        second = random_machine(dice, SEVERAL, 1, 3, SEVERAL, 2)
        self.check(identity(SEVERAL), second, 2)
        self.check(random_machine(dice, SEVERAL, 3, 1, SEVERAL, 2), random_machine(dice, SEVERAL, 2, 1, SEVERAL, 2), 2)


def by_period(length, side):
    """Copies Aa, but puts out Ab at every symbol whose number from this side is a multiple of the length."""
    rows = cycle(ONE, length)

    def output_at(before, symbol, behind):
        return ("Ab",) if (before if side == "left" else behind) == 0 else ("Aa",)

    return told_by(ONE, rows if side == "left" else STAY, rows if side == "right" else STAY, output_at)


def by_count(tail, many, side):
    """Reads Aa and Ab alike, and puts out something else for every state of a tail and a cycle on this side."""
    rows = for_both(tail_and_cycle(tail, many))
    stay = for_both(STAY)

    def output_at(before, symbol, behind):
        return (EVERY_SYMBOL[before + behind],)

    return told_by(("Aa", "Ab"), rows if side == "left" else stay, rows if side == "right" else stay, output_at)


class Bounds(unittest.TestCase):
    def test_exactly_40_pairs(self):
        for side, place in (("left", 1), ("right", 2)):
            with self.subTest(side):
                # The first machine counts to 5 and the second one to 8: there are 40 pairs of counts.
                found = composed(by_period(5, side), by_count(0, 8, side))
                # The least form has 8 states, as the second machine does not care for what the first one counts.
                self.assertEqual(len(found[place]), 8)
                outputs = [(EVERY_SYMBOL[many % 8],) for many in range(20)]
                self.assertEqual(put_out(found, ONE * 20), tuple(outputs if side == "left" else outputs[::-1]))

    def test_exactly_41_pairs(self):
        for side in ("left", "right"):
            with self.subTest(side):
                self.refuse(by_period(5, side), by_count(1, 8, side))

    def test_more_pairs(self):
        for side in ("left", "right"):
            self.assertEqual(composed(by_period(39, side), identity(("Aa", "Ab"))), by_period(39, side))
            self.assertEqual(composed(by_period(40, side), identity(("Aa", "Ab"))), by_period(40, side))
            self.refuse(by_period(7, side), by_count(0, 6, side))
            self.refuse(by_period(39, side), by_count(0, 40, side))

    def test_40_left_and_40_right_pairs(self):
        first = told_by(ONE, cycle(ONE, 5), cycle(ONE, 5),
                        lambda before, symbol, behind: (("Aa",), ("Ab",), ("Ac",))[(before == 0) + (behind == 0)])
        rows = tuple(row * 3 for row in cycle(ONE, 8))
        second = told_by(("Aa", "Ab", "Ac"), rows, rows, lambda before, symbol, behind: ("@a",) * (before + behind))
        found = composed(first, second)
        self.assertEqual((len(found[1]), len(found[2])), (8, 8))
        self.assertTrue(is_least_form(found))

    def test_pairs_with_lists_of_several_states(self):
        # The first machine drops the last symbol, or the first one. So n symbols have the counts n - 1 and n before
        # or behind the two states of its other side, but both counts are 0 where there is no symbol.
        for side in ("left", "right"):
            with self.subTest(side):
                rows = (STAY, chain(ONE, 2)) if side == "left" else (chain(ONE, 2), STAY)
                first = told_by(ONE, *rows, lambda before, symbol, behind: ("Aa",) * (before + behind))
                found = composed(first, by_count(0, 39, side))
                self.assertTrue(is_least_form(found))
                for many in (0, 1, 2, 39, 40, 41, 80):
                    told = one_behind_the_other(first, by_count(0, 39, side), ONE * many)
                    self.assertEqual(run(found, ONE * many), told)
                self.refuse(first, by_count(1, 39, side))

    def test_only_states_of_the_least_forms_count(self):
        # 39 times 40 pairs of states, but the machine before does the same with one state.
        idle = told_by(("Aa", "Ab"), for_both(cycle(ONE, 39)), for_both(cycle(ONE, 39)),
                       lambda before, symbol, behind: (symbol,))
        for side in ("left", "right"):
            second = by_count(0, 20, side)
            self.assertEqual(composed(idle, second), second)

    def test_27_and_28_symbols(self):
        for many, times in ((27, 1), (1, 27), (9, 3), (3, 9), (13, 2)):
            first, second = repeating(many), repeating(times)
            self.assertEqual(composed(first, second)[3], ((((("Aa",) * (many * times)),),),))
        for many, times in ((14, 2), (2, 14), (4, 7), (7, 4), (28, 1), (27, 2), (27, 27)):
            self.refuse(repeating(many), repeating(times))

    def test_28_symbols_at_one_place(self):
        # The second machine puts out two symbols for the first one that it reads, one for all others.
        for many, refused in ((26, False), (27, True)):
            ahead = told_by(ONE, chain(ONE, 2), STAY, lambda before, symbol, behind: ("Aa",) * (2 - before))
            self.bound(repeating(many), ahead, refused)
            behind = told_by(ONE, STAY, chain(ONE, 2), lambda before, symbol, behind: ("Aa",) * (2 - behind))
            self.bound(repeating(many), behind, refused)
        # It puts out two symbols only from the 40th one on: that is in some sequence, too.
        late = told_by(ONE, chain(ONE, 40), STAY, lambda before, symbol, behind: ("Aa",) * (1 + (before == 39)))
        self.refuse(repeating(14), late)
        self.assertEqual(run(composed(repeating(13), late), ONE * 4)[-1], ("Aa", 3))

    def test_28_symbols_that_no_sequence_has(self):
        second = told_by(("Aa", "Ab"), ((0, 1), (1, 1)), ((0, 0),),
                         lambda before, symbol, behind: ("Aa",) * (1 + before))
        # The second machine is never in its left state 1, as Ab is never put out.
        self.assertEqual(composed(repeating(27), second), repeating(27))
        self.assertEqual(composed(repeating(14), second), repeating(14))
        # The first machine has 28 symbols only at states that no sequence has.
        first = told_by(ONE, ((0,), (1,)), ((0,), (1,)),
                        lambda before, symbol, behind: ("Aa",) * (14 if before + behind else 1))
        self.assertEqual(composed(first, repeating(2)), repeating(2))

    def bound(self, first, second, refused):
        if refused:
            self.refuse(first, second)
        else:
            found = composed(first, second)
            for many in (1, 2, 3):
                self.assertEqual(run(found, ONE * many), one_behind_the_other(first, second, ONE * many))

    def refuse(self, first, second):
        with self.assertRaises(TooLarge) as caught:
            composed(first, second)
        self.assertIsNone(caught.exception.stage)


def repeating(many):
    """Puts out Aa so many times for each Aa."""
    return (ONE, STAY, STAY, ((((("Aa",) * many),),),))


class NotReadSymbols(unittest.TestCase):
    def refused(self, first, second):
        with self.assertRaises(NotRead) as caught:
            composed(first, second)
        return caught.exception.symbol

    def test_a_symbol_that_the_second_machine_does_not_read(self):
        self.assertEqual(self.refused(identity(TWO), identity(ONE)), "Ba")
        self.assertEqual(self.refused(identity(TWO), identity(("Ba",))), "Aa")
        self.assertEqual(self.refused(COPY, identity(("Ba",))), "Aa")

    def test_the_least_such_symbol(self):
        self.assertEqual(self.refused(identity(SEVERAL), identity(("@a", "@c", "Aa"))), "@b")
        self.assertEqual(self.refused(identity(TWO), identity(("Zz",))), "Aa")
        for output in (("Zz", "Bb", "Aa"), ("Bb", "Zz"), ("Aa", "Aa", "Bb")):
            first = told_by(ONE, STAY, STAY, lambda before, symbol, behind: output)
            self.assertEqual(self.refused(first, identity(ONE)), "Bb")
        first = told_by(TWO, cycle(TWO, 2), cycle(TWO, 2), lambda before, symbol, behind:
                        ("Zz",) if before == 0 else ("@y",) if behind == 0 else ("@x",))
        self.assertEqual(self.refused(first, identity(ONE)), "@x")

    def test_a_symbol_that_is_put_out_late(self):
        first = told_by(ONE, chain(ONE, 40), chain(ONE, 40), lambda before, symbol, behind:
                        ("Bb",) if before == behind == 39 else ("Aa",))
        self.assertEqual(self.refused(first, identity(ONE)), "Bb")

    def test_a_symbol_that_is_put_out_in_no_sequence(self):
        at_left = told_by(ONE, ((0,), (1,)), STAY, lambda before, symbol, behind: ("Zz",) if before else ("Aa",))
        at_right = told_by(ONE, STAY, ((0,), (1,)), lambda before, symbol, behind: ("Zz",) if behind else ("Aa",))
        for first in (at_left, at_right):
            self.assertEqual(composed(first, identity(ONE)), identity(ONE))
            # The least symbol of those that are put out in some sequence.
            self.assertEqual(self.refused(first, identity(("Bb",))), "Aa")

    def test_not_read_before_too_large(self):
        # 41 pairs on either side, or 28 symbols put out, and a symbol that is not read.
        for side in ("left", "right"):
            first = by_period(5, side)
            last = told_by(first[0], first[1], first[2], lambda before, symbol, behind:
                           first[3][before][0][behind] + (("Zz",) if before == behind == 0 else ()))
            self.assertEqual(self.refused(last, by_count(1, 8, side)), "Zz")
        many = told_by(TWO, ((0, 0),), ((0, 0),), lambda before, symbol, behind: ("Aa",) * 14)
        first = changed(many, 0, 1, 0, ("Bb",))
        self.assertEqual(self.refused(first, repeating(2)), "Bb")
        with self.assertRaises(TooLarge):
            composed(changed(first, 0, 1, 0, ()), repeating(2))

    def test_symbols_that_are_read_and_not_put_out_do_no_harm(self):
        self.assertEqual(composed(identity(ONE), identity(SEVERAL)), identity(ONE))
        self.assertEqual(run(composed(identity(("Zz",)), identity(EVERY_SYMBOL[-12:])), ("Zz",)), (("Zz", 0),))


if __name__ == "__main__":
    unittest.main()
