"""What the letters of an owner tell: [290], [291] and excerptcheck/discretion.py in the interface."""

import itertools
import unittest

from excerptcheck.cascades import pipeline_machine
from excerptcheck.discretion import alike_but_for, indiscretion
from excerptcheck.errors import TooLarge
from excerptcheck.kinds import kind_machine
from excerptcheck.twoway import identity
from oracles import SEVERAL, chain, cycle, put_out, random_acceptor, random_machine, takes, told_by
from pipes import A, B, random_pairs, rule
from samples import ALL, EVERYTHING, NONE, dice_for, has_flags, is_plain, of, random_sequence, sequences, star, then

TWO = ("Aa", "Ba")
LETTERS = ("Aa", "Ab")
COPY = (TWO, ((0, 0),), ((0, 1), (0, 1)), ((((), ("Aa",)), (("Ba",), ("Ba",))),))
WIDE = ("ab", "AB", ALL)


def alike_told(owner, first, second):
    return len(first) == len(second) and all(one == other or one[0] == other[0] == owner
                                             for one, other in zip(first, second))


def indiscretion_told(acceptor, machine, owner, most):
    pairs = [pair for pair in itertools.product(acceptor[0], repeat=2) if alike_told(owner, pair[:1], pair[1:])]
    for row in sequences(sorted(pairs), most):
        first, second = tuple(one for one, _ in row), tuple(other for _, other in row)
        if takes(acceptor, first) and takes(acceptor, second):
            for position, outputs in enumerate(zip(put_out(machine, first), put_out(machine, second))):
                if not alike_told(owner, *outputs):
                    return first, second, position
    return None


def every(reads, rows):
    return (reads, rows, tuple(range(len(rows))))


def counting(many, begun=False, symbol=0):
    """Rows over two symbols that count one of them up to `many`, from the second symbol on if `begun`."""
    rows = [tuple((state + 1) % many if index == symbol else state for index in range(2)) for state in range(many)]
    if begun:
        return ((1, 1),) + tuple(tuple(after + 1 for after in row) for row in rows)
    return tuple(rows)


class Alike(unittest.TestCase):
    def test_the_example_of_the_interface(self):
        self.assertIs(alike_but_for("A", ("Aa", "Ba"), ("Ab", "Ba")), True)

    def test_ordinary_sequences(self):
        self.assertIs(alike_but_for("B", ("Aa", "Ba"), ("Ab", "Ba")), False)
        self.assertIs(alike_but_for("A", ("Aa", "Ba"), ("Aa", "Ba")), True)
        self.assertIs(alike_but_for("Z", ("Aa", "Ba"), ("Aa", "Ba")), True)
        self.assertIs(alike_but_for("A", ("Aa", "Ba"), ("Ab", "Bb")), False)
        self.assertIs(alike_but_for("A", ("Aa",), ("Ba",)), False)
        self.assertIs(alike_but_for("A", ("Aa",), ("@a",)), False)
        self.assertIs(alike_but_for("A", ("@a",), ("@b",)), False)
        self.assertIs(alike_but_for("A", ("Aa", "@a", "Az"), ("Ax", "@a", "Aa")), True)

    def test_different_lengths(self):
        self.assertIs(alike_but_for("A", (), ("Aa",)), False)
        self.assertIs(alike_but_for("A", ("Aa", "Aa"), ("Aa",)), False)
        self.assertIs(alike_but_for("A", ("Aa",), ("Aa", "Ab")), False)

    def test_the_empty_sequence(self):
        self.assertIs(alike_but_for("A", (), ()), True)

    def test_sequences_of_100_symbols(self):
        self.assertIs(alike_but_for("A", ("Aa",) * 100, ("Ab",) * 100), True)
        self.assertIs(alike_but_for("A", ("Aa",) * 99 + ("Ba",), ("Ab",) * 99 + ("Bb",)), False)

    def test_random_sequences(self):
        dice = dice_for("alike")
        for _ in range(500):
            first = random_sequence(dice, ("@a", "Aa", "Ab", "Ba"), dice.randint(0, 3))
            second = random_sequence(dice, ("@a", "Aa", "Ab", "Ba"), dice.randint(0, 3))
            self.assertIs(alike_but_for("A", first, second), alike_told("A", first, second))


class Indiscretion(unittest.TestCase):
    def test_the_examples_of_the_interface(self):
        self.assertIsNone(indiscretion(kind_machine(EVERYTHING), COPY, "A"))
        machine = pipeline_machine("ab", "AB", ((rule(ALL, B, then(of("A", "a"), ALL)),),))
        self.assertEqual(indiscretion(kind_machine(WIDE), machine, "A"), (("Ba", "Aa"), ("Ba", "Ab"), 0))

    def test_an_owner_that_no_machine_reads(self):
        dice = dice_for("no such owner")
        for _ in range(20):
            machine = random_machine(dice, LETTERS, 2, 2)
            for owner in ("B", "Z"):
                self.assertIsNone(indiscretion(every(LETTERS, ((0, 0),)), machine, owner))

    def test_nothing_is_told(self):
        for owner in "AB":
            self.assertIsNone(indiscretion(kind_machine(WIDE), identity(("Aa", "Ab", "Ba", "Bb")), owner))
            marking = pipeline_machine("ab", "AB", ((rule(output="a$"),),))
            self.assertIsNone(indiscretion(kind_machine(WIDE), marking, owner))

    def test_the_letters_themselves_tell_nothing(self):
        # The output of a symbol of A may have any letters of A.
        swapped = told_by(LETTERS, ((0, 0),), ((0, 0),), lambda before, symbol, behind:
                          ("Ab", "Az") if symbol == "Aa" else ("Aa", "Aa"))
        self.assertIsNone(indiscretion(every(LETTERS, ((0, 0),)), swapped, "A"))
        marked = told_by(LETTERS, ((0, 0),), ((0, 0),), lambda before, symbol, behind: ("@" + symbol[1],))
        self.assertEqual(indiscretion(every(LETTERS, ((0, 0),)), marked, "A"), (("Aa",), ("Ab",), 0))

    def test_outputs_of_different_lengths(self):
        longer = told_by(LETTERS, ((0, 0),), ((0, 0),), lambda before, symbol, behind:
                         ("Aa",) if symbol == "Aa" else ("Aa", "Aa"))
        self.assertEqual(indiscretion(every(LETTERS, ((0, 0),)), longer, "A"), (("Aa",), ("Ab",), 0))
        dropped = told_by(LETTERS, ((0, 0),), ((0, 0),), lambda before, symbol, behind: (symbol,) * (symbol == "Aa"))
        self.assertEqual(indiscretion(every(LETTERS, ((0, 0),)), dropped, "A"), (("Aa",), ("Ab",), 0))

    def test_only_accepted_sequences_count(self):
        marked = told_by(LETTERS, ((0, 0),), ((0, 0),), lambda before, symbol, behind: ("@" + symbol[1],))
        only = (LETTERS, ((1, 2), (1, 2), (2, 2)), (0, 1))
        self.assertIsNone(indiscretion(only, marked, "A"))
        self.assertIsNone(indiscretion((LETTERS, ((0, 0),), ()), marked, "A"))
        even = (LETTERS, cycle(LETTERS, 2), (0,))
        self.assertEqual(indiscretion(even, marked, "A"), (("Aa", "Aa"), ("Aa", "Ab"), 1))
        last = kind_machine(("ab", "A", then(ALL, of("", "a"))))
        self.assertEqual(indiscretion(last, marked, "A"), (("Aa", "Aa"), ("Ab", "Aa"), 0))

    def test_what_stands_before_and_what_stands_behind(self):
        before = told_by(TWO + ("Bb",), ((0, 0, 1), (0, 0, 1)), ((0, 0, 0),), lambda before, symbol, behind:
                         (symbol,) * before if symbol == "Aa" else ())
        self.assertEqual(indiscretion(every(before[0], ((0, 0, 0),)), before, "B"), (("Ba", "Aa"), ("Bb", "Aa"), 1))
        behind = told_by(TWO + ("Bb",), ((0, 0, 0),), ((0, 0, 1), (0, 0, 1)), lambda before, symbol, behind:
                         (symbol,) * behind if symbol == "Aa" else ())
        self.assertEqual(indiscretion(every(before[0], ((0, 0, 0),)), behind, "B"), (("Aa", "Ba"), ("Aa", "Bb"), 0))
        self.assertIsNone(indiscretion(every(before[0], ((0, 0, 0),)), before, "A"))

    def test_the_first_pair_in_the_order_of_pairs(self):
        # Ab and Ac are told from Aa; the pair (Aa, Ab) precedes (Aa, Ac), which precedes (Ab, Aa).
        three = ("Aa", "Ab", "Ac")
        told = told_by(three, ((0, 0, 0),), ((0, 0, 0),), lambda before, symbol, behind: ("@a",) * (symbol == "Ac"))
        self.assertEqual(indiscretion(every(three, ((0, 0, 0),)), told, "A"), (("Aa",), ("Ac",), 0))
        only = (three, ((1, 0, 1), (1, 1, 1)), (1,))
        self.assertEqual(indiscretion(only, told, "A"), (("Aa",), ("Ac",), 0))
        # The two sequences must be ordered as pairs, position by position, and not one behind the other.
        late = told_by(LETTERS, chain(LETTERS, 3), ((0, 0),), lambda before, symbol, behind:
                       ("@" + symbol[1],) if before == 1 else ())
        self.assertEqual(indiscretion(every(LETTERS, ((0, 0),)), late, "A"), (("Aa", "Aa"), ("Aa", "Ab"), 1))

    def test_the_first_position(self):
        # The last symbol tells something at all positions at once.
        right = ((1, 2), (1, 1), (2, 2))
        told = told_by(LETTERS, chain(LETTERS, 3), right, lambda before, symbol, behind:
                       ("@b",) if behind == 2 and before >= 1 else ())
        self.assertEqual(indiscretion(every(LETTERS, ((0, 0),)), told, "A"),
                         (("Aa", "Aa", "Aa"), ("Aa", "Aa", "Ab"), 1))

    def test_other_owners_tell_what_they_like(self):
        machine = pipeline_machine("ab", "AB", ((rule(then(ALL, of("B", "a")), A), rule(ALL, B)),))
        self.assertIsNone(indiscretion(kind_machine(WIDE), machine, "A"))
        self.assertEqual(indiscretion(kind_machine(WIDE), machine, "B"), (("Ba", "Aa"), ("Bb", "Aa"), 1))

    def test_a_symbol_of_the_owner_in_place_of_another_ones(self):
        # What is put out belongs to another owner, or to the editor.
        for output in (("Ba",), ("@a",)):
            told = told_by(LETTERS, ((0, 0),), ((0, 0),), lambda before, symbol, behind:
                           ("Aa",) if symbol == "Aa" else output)
            self.assertEqual(indiscretion(every(LETTERS, ((0, 0),)), told, "A"), (("Aa",), ("Ab",), 0))

    def test_kinds_without_a_document(self):
        machine = pipeline_machine("ab", "AB", ((rule(target=of("", "a")),),))
        self.assertIsNone(indiscretion(kind_machine(("ab", "AB", NONE)), machine, "A"))
        self.assertEqual(indiscretion(kind_machine(WIDE), machine, "A"), (("Aa",), ("Ab",), 0))
        self.assertIsNone(indiscretion(kind_machine(("ab", "AB", star(of("", "b")))), machine, "A"))

    def test_random_acceptors_and_machines(self):
        dice = dice_for("indiscretions")
        found = []
        for _ in range(250):
            reads = dice.choice([LETTERS, LETTERS, ("@a", "Aa", "Ab"), ("Aa", "Ab", "Ba")])
            acceptor = random_acceptor(dice, reads, dice.randint(1, 3), dice.choice([0.3, 0.6, 1]))
            machine = random_machine(dice, reads, dice.randint(1, 2), dice.randint(1, 2), ("Aa", "Ab"), dice.choice([1, 1, 2]))
            if dice.random() < 0.7:
                machine = self.milder(dice, machine)
            found.append(self.check(acceptor, machine, "A", 4 if len(reads) < 3 else 3))
        self.assertGreater(found.count(None), 60)
        self.assertGreater(len([told for told in found if told and len(told[0]) > 1]), 30)

    def milder(self, dice, machine):
        """The machine with outputs of one symbol of A each, but for one place."""
        reads, left, right, outputs = machine
        rows = [[[("A" + dice.choice("ab"),) for _ in row] for row in part] for part in outputs]
        rows[dice.randrange(len(left))][dice.randrange(len(reads))][dice.randrange(len(right))] = dice.choice([("@a",), ()])
        return (reads, left, right, tuple(tuple(tuple(row) for row in part) for part in rows))

    def check(self, acceptor, machine, owner, most):
        found = indiscretion(acceptor, machine, owner)
        self.assertTrue(is_plain(found) and not has_flags(found))
        expected = indiscretion_told(acceptor, machine, owner, most)
        if expected is None and found is not None:
            first, second, position = found
            self.assertGreater(len(first), most)
            self.assertTrue(takes(acceptor, first) and takes(acceptor, second) and alike_told(owner, first, second))
            outputs = list(zip(put_out(machine, first), put_out(machine, second)))
            self.assertEqual([alike_told(owner, *pair) for pair in outputs[:position + 1]], [True] * position + [False])
        else:
            self.assertEqual(found, expected, (acceptor, machine, owner))
        return found

    def test_kinds_and_pipelines(self):
        for kind, pipeline in random_pairs("indiscretions of pipelines", 40, nodes=4):
            acceptor, machine = kind_machine(kind), pipeline_machine(kind[0], kind[1], pipeline)
            for owner in "AB":
                try:
                    self.check(acceptor, machine, owner, 2)
                except TooLarge:
                    pass


class Bounds(unittest.TestCase):
    def refuse(self, acceptor, machine, owner="A"):
        with self.assertRaises(TooLarge) as caught:
            indiscretion(acceptor, machine, owner)
        self.assertIsNone(caught.exception.stage)

    def marking(self, reads, left, right):
        """A machine that puts out a symbol of the editor at one pair of states, where the letter is b."""
        places = (len(left) - 1, len(right) - 1)
        return told_by(reads, left, right, lambda before, symbol, behind:
                       ("@b",) if symbol[1] == "b" and (before, behind) == places else ())

    def test_exactly_400_quadruples(self):
        # The counts of Aa in the two sequences are any two numbers.
        twenty = every(LETTERS, counting(20))
        self.assertIsNone(indiscretion(twenty, identity(LETTERS), "A"))
        found = indiscretion(twenty, self.marking(LETTERS, ((0, 0),), ((0, 0),)), "A")
        self.assertEqual(found, (("Aa",), ("Ab",), 0))
        left = self.marking(LETTERS, counting(20), ((0, 0),))
        found = indiscretion(every(LETTERS, ((0, 0),)), left, "A")
        self.assertEqual(found, (("Aa",) * 20, ("Aa",) * 19 + ("Ab",), 19))
        # One symbol, and the acceptor and the left states count it apart.
        one = ("Aa",)
        self.assertIsNone(indiscretion(every(one, cycle(one, 16)), self.marking(one, cycle(one, 25), ((0,),)), "A"))
        # 200 states, and one pair of left states for each of two letters.
        marked = told_by(LETTERS, ((0, 1), (0, 1)), ((0, 0),), lambda before, symbol, behind: ())
        self.assertIsNone(indiscretion(every(LETTERS, cycle(LETTERS, 99)), marked, "A"))

    def test_exactly_401_quadruples(self):
        # One more for the two empty sequences.
        self.refuse(every(LETTERS, counting(20, True)), identity(LETTERS))
        self.refuse(every(LETTERS, ((0, 0),)), self.marking(LETTERS, counting(20, True), ((0, 0),)))
        one = ("Aa",)
        begun = ((1,),) + tuple(((state + 1) % 16 + 1,) for state in range(16))
        self.refuse(every(one, begun), self.marking(one, cycle(one, 25), ((0,),)))
        self.assertIsNone(indiscretion(every(LETTERS, counting(19, True)), identity(LETTERS), "A"))

    def test_quadruples_of_sequences_that_are_not_accepted_count(self):
        self.refuse((LETTERS, counting(20, True), ()), identity(LETTERS))
        self.refuse((LETTERS, counting(20, True), (0,)), identity(LETTERS))

    def test_states_that_no_sequence_has_do_not_count(self):
        rows = counting(20) + tuple((state, state) for state in range(180))
        self.assertIsNone(indiscretion(every(LETTERS, rows), identity(LETTERS), "A"))

    def test_pairs_that_are_not_alike_do_not_count(self):
        # Over two owners the two sequences count the same.
        self.assertIsNone(indiscretion(every(TWO, counting(200)), identity(TWO), "A"))
        self.refuse(every(("Aa", "Ab"), counting(200)), identity(LETTERS), "A")
        self.assertIsNone(indiscretion(every(("Aa", "Ab"), counting(200)), identity(LETTERS), "B"))

    def test_exactly_400_pairs(self):
        right = self.marking(LETTERS, ((0, 0),), counting(20))
        found = indiscretion(every(LETTERS, ((0, 0),)), right, "A")
        self.assertEqual(found, (("Aa",) * 20, ("Ab",) + ("Aa",) * 19, 0))

    def test_exactly_401_pairs(self):
        self.refuse(every(LETTERS, ((0, 0),)), self.marking(LETTERS, ((0, 0),), counting(20, True)))
        self.refuse((LETTERS, ((0, 0),), ()), self.marking(LETTERS, ((0, 0),), counting(20, True)))
        found = indiscretion(every(LETTERS, ((0, 0),)), self.marking(LETTERS, ((0, 0),), counting(19, True)), "A")
        self.assertEqual(found, (("Aa",) * 20, ("Ab",) + ("Aa",) * 19, 0))

    def test_400_quadruples_and_400_pairs(self):
        both = self.marking(LETTERS, counting(20), counting(20))
        found = indiscretion(every(LETTERS, ((0, 0),)), both, "A")
        self.assertEqual(found, (("Aa",) * 39, ("Aa",) * 19 + ("Ab",) + ("Aa",) * 19, 19))
        # Both sequences have the symbol Aa three times, or 23 times, and behind the letter that tells something 19 times.
        found = indiscretion((LETTERS, counting(20), (3,)), self.marking(LETTERS, ((0, 0),), counting(20)), "A")
        self.assertEqual(found, (("Aa",) * 23 + ("Ab",), ("Aa",) * 4 + ("Ab",) + ("Aa",) * 19, 4))

    def test_far_more(self):
        dice = dice_for("large indiscretions")
        self.refuse(random_acceptor(dice, SEVERAL, 200), random_machine(dice, SEVERAL, 40, 40))

    def test_12_symbols(self):
        dice = dice_for("indiscretions over twelve symbols")
        reads = tuple("A" + letter for letter in "abcdefghijkl")
        acceptor = every(reads, ((0,) * 12,))
        machine = random_machine(dice, reads, 4, 4, ("Aa", "Ab"), 1)
        self.assertEqual(indiscretion(acceptor, machine, "A"), indiscretion_told(acceptor, machine, "A", 2))
        self.assertIsNone(indiscretion(acceptor, identity(reads), "A"))


if __name__ == "__main__":
    unittest.main()
