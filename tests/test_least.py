"""Least forms, restricted machines, where machines part: [102], [103], [21], excerptcheck/least.py."""

import unittest

from excerptcheck.least import least_form, parting_sequence, restricted
from excerptcheck.twoway import identity, run
from oracles import (SEVERAL, changed, chain, cycle, first_parting, is_least_form, pairs_of, put_out, random_machine,
                     random_output, told_by, twins)
from samples import EVERY_SYMBOL, dice_for, has_flags, is_plain, random_sequence, sequences

TWO = ("Aa", "Ba")
COPY = (TWO, ((0, 0),), ((0, 1), (0, 1)), ((((), ("Aa",)), (("Ba",), ("Ba",))),))
NOTHING = (TWO, ((0, 0),), ((0, 0),), ((((),), ((),)),))


def random_machines(name, many, most=4):
    dice = dice_for(name)
    for _ in range(many):
        reads = dice.choice([("Zz",), TWO, ("@a", "Ab", "Bz")])
        yield random_machine(dice, reads, dice.randint(1, most), dice.randint(1, most), most=dice.choice([1, 1, 2]))


def blown_up(dice, machine, lefts, rights):
    """A machine with so many states of either side that does the same: states occur several times, in any order."""
    reads, left, right, outputs = machine
    left_origins, left_rows = spread_out(dice, left, lefts)
    right_origins, right_rows = spread_out(dice, right, rights)
    wide = tuple(tuple(tuple(row[behind] for behind in right_origins) for row in outputs[before])
                 for before in left_origins)
    return (reads, left_rows, right_rows, wide)


def spread_out(dice, rows, many):
    origins = list(range(1, len(rows))) + [dice.randrange(len(rows)) for _ in range(many - len(rows))]
    dice.shuffle(origins)
    origins = [0] + origins
    places = {state: [at for at, origin in enumerate(origins) if origin == state] for state in origins}
    return origins, tuple(tuple(dice.choice(places[after]) for after in rows[origin]) for origin in origins)


class LeastForm(unittest.TestCase):
    def check(self, machine, most=4):
        found = least_form(machine)
        self.assertTrue(is_least_form(found), (machine, found))
        self.assertTrue(is_plain(found) and not has_flags(found))
        self.assertEqual(found[0], machine[0])
        self.assertLessEqual(len(found[1]), len(machine[1]))
        self.assertLessEqual(len(found[2]), len(machine[2]))
        for sequence in sequences(machine[0], most):
            self.assertEqual(put_out(found, sequence), put_out(machine, sequence))
        self.assertEqual(least_form(found), found)
        return found

    def test_the_example_of_the_document(self):
        self.assertEqual(least_form(COPY), COPY)

    def test_one_state_of_either_side(self):
        self.assertEqual(least_form(NOTHING), NOTHING)
        self.assertEqual(least_form(identity(("Zz",))), identity(("Zz",)))

    def test_states_that_no_sequence_has_are_left_out(self):
        machine = told_by(TWO, ((0, 0), (0, 1)), ((0, 0), (1, 0)),
                          lambda before, symbol, behind: () if before == behind == 0 else ("Zz",))
        self.assertEqual(least_form(machine), NOTHING)

    def test_outputs_at_states_that_no_sequence_has_tell_nothing(self):
        # The two left states differ only at the right state 1, which no sequence has, and the other way round.
        one_way = told_by(TWO, ((1, 1), (0, 0)), ((0, 0), (0, 0)),
                          lambda before, symbol, behind: ("Zz",) if (before, behind) == (1, 1) else ())
        self.assertEqual(least_form(one_way), NOTHING)
        other_way = told_by(TWO, ((0, 0), (0, 0)), ((1, 1), (0, 0)),
                            lambda before, symbol, behind: ("Zz",) if (before, behind) == (1, 1) else ())
        self.assertEqual(least_form(other_way), NOTHING)

    def test_alike_states_are_joined(self):
        doubled = (TWO, ((1, 0), (0, 1)), ((2, 1), (0, 3), (0, 3), (2, 1)), (COPY[3][0], COPY[3][0]))
        doubled = told_by(TWO, doubled[1], doubled[2],
                          lambda before, symbol, behind: COPY[3][0][TWO.index(symbol)][behind % 2])
        self.assertEqual(least_form(doubled), COPY)

    def test_states_that_only_a_long_sequence_tells_apart(self):
        for many in (2, 9, 40):
            late = told_by(("Aa",), chain(("Aa",), many), chain(("Aa",), many),
                           lambda before, symbol, behind: ("@a",) * (before == many - 1 == behind))
            self.assertEqual(least_form(late), late)
            late = told_by(("Aa",), cycle(("Aa",), many), cycle(("Aa",), many),
                           lambda before, symbol, behind: ("@a",) * (before == many - 1 == behind))
            self.assertEqual(least_form(late), late)

    def test_left_states_are_numbered_in_the_order(self):
        # After Aa, Ba, Aa Aa and Aa Ba there are four other left states.
        rows = ((1, 2), (3, 4), (2, 2), (3, 3), (4, 4))
        machine = told_by(TWO, rows, ((0, 0),), lambda before, symbol, behind: ("Aa",) * before)
        self.assertEqual(least_form(machine), machine)
        for order in ((0, 2, 1, 3, 4), (0, 4, 3, 2, 1), (0, 1, 2, 4, 3), (0, 3, 4, 1, 2)):
            mixed = renumbered(machine, order, (0,))
            self.assertEqual(least_form(mixed), machine)

    def test_right_states_are_numbered_in_the_mirrored_order(self):
        # Right state 3 is that of Aa Aa, 4 that of Ba Aa, 5 that of Aa Ba: in the order, Aa Ba would precede Ba Aa.
        rows = ((1, 2), (3, 4), (5, 2), (3, 3), (4, 4), (5, 5))
        machine = told_by(TWO, ((0, 0),), rows, lambda before, symbol, behind: ("Aa",) * behind)
        self.assertEqual(least_form(machine), machine)
        for order in ((0, 2, 1, 3, 4, 5), (0, 5, 4, 3, 2, 1), (0, 1, 2, 3, 5, 4), (0, 3, 4, 1, 5, 2)):
            mixed = renumbered(machine, (0,), order)
            self.assertEqual(least_form(mixed), machine)

    def test_the_sides_are_not_joined_with_each_other(self):
        machine = told_by(TWO, cycle(TWO, 2), cycle(TWO, 3), lambda before, symbol, behind: ("Aa",) * (before + behind))
        self.assertEqual(least_form(machine), machine)

    def test_outputs_that_differ_in_order_or_number_only(self):
        for first, second in ((("Aa", "Ba"), ("Ba", "Aa")), (("Aa",), ("Aa", "Aa")), ((), ("Aa",))):
            machine = told_by(TWO, cycle(TWO, 2), ((0, 0),), lambda before, symbol, behind: (first, second)[before])
            self.assertEqual(least_form(machine), machine)

    def test_random_machines(self):
        for machine in random_machines("least forms", 150):
            self.check(machine)

    def test_random_machines_that_put_out_little(self):
        dice = dice_for("few outputs")
        for _ in range(100):
            machine = random_machine(dice, TWO, 5, 5, most=0)
            machine = changed(machine, dice.randrange(5), dice.randrange(2), dice.randrange(5), ("Aa",))
            self.check(machine, 5)

    def test_machines_that_do_the_same_have_one_least_form(self):
        dice = dice_for("one least form")
        for machine in random_machines("machines that do the same", 60):
            least = self.check(machine, 3)
            for lefts, rights in ((len(least[1]), len(least[2])), (9, 5), (4, 12), (40, 40)):
                self.assertEqual(least_form(blown_up(dice, least, lefts, rights)), least)

    def test_40_states_of_either_side_12_symbols_and_27_symbols_put_out(self):
        dice = dice_for("large least forms")
        for lefts, rights in ((40, 40), (1, 40), (40, 1), (13, 7)):
            machine = random_machine(dice, SEVERAL, lefts, rights, EVERY_SYMBOL, 27)
            least = least_form(machine)
            self.assertTrue(is_least_form(least))
            sequence = random_sequence(dice, SEVERAL, 60)
            self.assertEqual(run(least, sequence), pairs_of(put_out(machine, sequence)))
            self.assertEqual(least_form(blown_up(dice, least, 40, 40)), least)

    def test_what_is_passed_is_not_changed(self):
        machine = told_by(TWO, cycle(TWO, 4), cycle(TWO, 4), lambda before, symbol, behind: ("Aa",) * (before % 2))
        again = told_by(TWO, cycle(TWO, 4), cycle(TWO, 4), lambda before, symbol, behind: ("Aa",) * (before % 2))
        least_form(machine)
        self.assertEqual(machine, again)


def renumbered(machine, left_order, right_order):
    """The machine with state n called left_order[n] and right_order[n]."""
    reads, left, right, outputs = machine
    old_left = [left_order.index(state) for state in range(len(left))]
    old_right = [right_order.index(state) for state in range(len(right))]
    return (reads, tuple(tuple(left_order[after] for after in left[state]) for state in old_left),
            tuple(tuple(right_order[after] for after in right[state]) for state in old_right),
            tuple(tuple(tuple(row[behind] for behind in old_right) for row in outputs[before]) for before in old_left))


class Restricted(unittest.TestCase):
    def test_example(self):
        self.assertEqual(restricted(COPY, ("Aa",)), (("Aa",), ((0,),), ((0,),), ((((),),),)))

    def test_to_the_other_symbol(self):
        self.assertEqual(restricted(COPY, ("Ba",)), (("Ba",), ((0,),), ((0,),), (((("Ba",),),),)))

    def test_to_all_symbols(self):
        self.assertEqual(restricted(COPY, TWO), COPY)
        for machine in random_machines("restricted to all", 40):
            self.assertEqual(restricted(machine, machine[0]), least_form(machine))

    def test_to_some_symbols(self):
        dice = dice_for("restricted")
        for _ in range(60):
            machine = random_machine(dice, SEVERAL[:4], dice.randint(1, 4), dice.randint(1, 4), most=1)
            for reads in (SEVERAL[:1], SEVERAL[3:4], SEVERAL[1:3], ("@a", "Aa"), ("@a", "@b", "Aa")):
                found = restricted(machine, reads)
                self.assertTrue(is_least_form(found))
                self.assertTrue(is_plain(found) and not has_flags(found))
                self.assertEqual(found[0], reads)
                for sequence in sequences(reads, 4):
                    self.assertEqual(put_out(found, sequence), put_out(machine, sequence))

    def test_states_that_only_other_symbols_lead_to_are_left_out(self):
        machine = told_by(TWO, ((0, 1), (1, 1)), ((0, 1), (1, 1)),
                          lambda before, symbol, behind: ("Aa",) * (before + behind))
        self.assertEqual(restricted(machine, ("Aa",)), (("Aa",), ((0,),), ((0,),), ((((),),),)))
        self.assertEqual(len(restricted(machine, ("Ba",))[1]), 2)
        self.assertEqual(len(restricted(machine, ("Ba",))[2]), 2)

    def test_one_of_12_symbols(self):
        machine = random_machine(dice_for("one of 12"), SEVERAL, 40, 40)
        for symbol in SEVERAL:
            found = restricted(machine, (symbol,))
            self.assertTrue(is_least_form(found))
            self.assertEqual(put_out(found, (symbol,) * 30), put_out(machine, (symbol,) * 30))


class Parting(unittest.TestCase):
    def test_example(self):
        self.assertEqual(parting_sequence(COPY, identity(TWO)), (("Aa",), 0))
        self.assertEqual(parting_sequence(identity(TWO), COPY), (("Aa",), 0))

    def test_machines_that_do_the_same(self):
        dice = dice_for("the same")
        self.assertIsNone(parting_sequence(COPY, COPY))
        for machine in random_machines("parting nowhere", 60):
            self.assertIsNone(parting_sequence(machine, least_form(machine)))
            self.assertIsNone(parting_sequence(blown_up(dice, machine, 9, 9), blown_up(dice, machine, 7, 10)))

    def test_states_that_no_sequence_has_do_not_count(self):
        machine = told_by(TWO, ((0, 0), (0, 0)), ((0, 0), (1, 1)),
                          lambda before, symbol, behind: ("Aa",) * (before + behind))
        self.assertIsNone(parting_sequence(machine, NOTHING))
        self.assertIsNone(parting_sequence(NOTHING, machine))

    def test_the_first_sequence_and_not_the_first_pair_of_states(self):
        # Behind Ba Ba and before nothing, behind nothing and before Ba Aa: only the whole sequence decides.
        left = ((2, 1), (2, 3), (2, 2), (2, 2))
        right = ((1, 2), (2, 3), (2, 2), (2, 2))
        machine = told_by(TWO, left, right, lambda before, symbol, behind:
                          ("Aa",) * ((before, symbol, behind) in ((3, "Aa", 0), (0, "Ba", 3))))
        self.assertEqual(parting_sequence(machine, NOTHING), (("Ba", "Ba", "Aa"), 0))
        machine = told_by(TWO, left, right, lambda before, symbol, behind:
                          ("Aa",) * ((before, symbol, behind) in ((3, "Aa", 0), (0, "Aa", 3))))
        self.assertEqual(parting_sequence(machine, NOTHING), (("Aa", "Ba", "Aa"), 0))

    def test_what_stands_behind_is_the_first_in_the_order_and_not_in_the_mirrored_one(self):
        # Both Aa Ba and Ba Aa have the right state 3; in the mirrored order Ba Aa would come first.
        right = ((1, 2), (4, 3), (3, 4), (4, 4), (4, 4))
        machine = told_by(TWO, ((0, 0),), right, lambda before, symbol, behind: ("Aa",) * (behind == 3))
        self.assertEqual(parting_sequence(machine, NOTHING), (("Aa", "Aa", "Ba"), 0))

    def test_the_first_position(self):
        machine = told_by(TWO, cycle(TWO, 3), ((0, 0),), lambda before, symbol, behind: ("Aa",) * (before == 2))
        self.assertEqual(parting_sequence(machine, NOTHING), (("Aa",) * 3, 2))
        machine = told_by(TWO, ((0, 0),), cycle(TWO, 3), lambda before, symbol, behind: ("Aa",) * (behind == 2))
        self.assertEqual(parting_sequence(machine, NOTHING), (("Aa",) * 3, 0))
        # All positions differ at once, in a sequence of two symbols.
        machine = told_by(TWO, chain(TWO, 2), chain(TWO, 2), lambda before, symbol, behind: ("Aa",) * (before + behind))
        self.assertEqual(parting_sequence(machine, NOTHING), (("Aa", "Aa"), 0))

    def test_the_same_symbols_with_other_origins_are_not_the_same(self):
        first = told_by(TWO, chain(TWO, 2), chain(TWO, 2), lambda before, symbol, behind: ("Aa",) * (before == 0))
        last = told_by(TWO, chain(TWO, 2), chain(TWO, 2), lambda before, symbol, behind: ("Aa",) * (behind == 0))
        self.assertEqual(parting_sequence(first, last), (("Aa", "Aa"), 0))

    def test_random_machines(self):
        dice = dice_for("parting")
        for _ in range(150):
            first = random_machine(dice, TWO, dice.randint(1, 4), dice.randint(1, 4), ("Aa",), 1)
            second = random_machine(dice, TWO, dice.randint(1, 4), dice.randint(1, 4), ("Aa",), 1)
            self.check(first, second, 5)

    def test_random_machines_that_differ_at_one_place(self):
        dice = dice_for("one place")
        for _ in range(250):
            reads = dice.choice([("Zz",), TWO, ("@a", "Ab", "Bz")])
            first = random_machine(dice, reads, dice.randint(2, 5), dice.randint(2, 5), ("Aa",), 1)
            before, behind = dice.randrange(len(first[1])), dice.randrange(len(first[2]))
            second = changed(first, before, dice.randrange(len(reads)), behind, random_output(dice, ("Ba",), 2))
            self.check(blown_up(dice, first, 6, 6), blown_up(dice, second, 7, 5), 6 if len(reads) < 3 else 4)

    def check(self, first, second, most):
        found = parting_sequence(first, second)
        self.assertEqual(parting_sequence(second, first), found)
        self.assertTrue(is_plain(found) and not has_flags(found))
        expected = first_parting(first, second, most)
        if expected is None:
            self.assertTrue(found is None or len(found[0]) > most, (first, second, found))
        else:
            self.assertEqual(found, expected, (first, second))

    def test_parting_late(self):
        nothing = told_by(("Aa",), ((0,),), ((0,),), lambda before, symbol, behind: ())
        for lefts, rights in ((40, 40), (40, 1), (1, 40), (17, 29)):
            late = told_by(("Aa",), chain(("Aa",), lefts), chain(("Aa",), rights),
                           lambda before, symbol, behind: ("@a",) * (before == lefts - 1 and behind == rights - 1))
            expected = (("Aa",) * (lefts + rights - 1), lefts - 1)
            self.assertEqual(parting_sequence(late, nothing), expected)
            self.assertEqual(parting_sequence(nothing, late), expected)

    def test_parting_late_on_both_sides(self):
        marks = twins(39, 40)

        def pair(many):
            return told_by(("Aa",), cycle(("Aa",), many), cycle(("Aa",), many),
                           lambda before, symbol, behind: ("@a",) * (marks[before] and marks[behind]))

        found = parting_sequence(pair(39), pair(40))
        self.assertGreaterEqual(len(found[0]), 78)
        expected = next(many for many in range(200) if self.differ(marks, many))
        self.assertEqual(len(found[0]), expected)
        self.assertEqual(found[1], self.differ(marks, expected)[0])

    def differ(self, marks, many):
        """The positions of a sequence of so many symbols at which the two machines of the test before differ."""
        def gives(period, at):
            return marks[at % period] and marks[(many - 1 - at) % period]
        return [at for at in range(many) if gives(39, at) != gives(40, at)]

    def test_40_states_of_either_side_over_12_symbols(self):
        dice = dice_for("parting of large machines")
        first = random_machine(dice, SEVERAL, 8, 8, ("Aa",), 2)
        least = least_form(first)
        self.assertIsNone(parting_sequence(blown_up(dice, first, 40, 40), blown_up(dice, least, 40, 40)))
        second = changed(first, 5, 3, 6, ("Zz",))
        found = parting_sequence(blown_up(dice, first, 40, 40), blown_up(dice, second, 40, 40))
        self.assertEqual(found, first_parting(first, second, 3))


if __name__ == "__main__":
    unittest.main()
