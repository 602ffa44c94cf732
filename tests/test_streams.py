"""What is certain, and streams: [285] to [287] and excerptcheck/streams.py in the interface."""

import unittest

from excerptcheck.cascades import pipeline_machine
from excerptcheck.errors import Finished, NotOfKind
from excerptcheck.kinds import kind_machine
from excerptcheck.pipelines import excerpt
from excerptcheck.streams import Stream, certain
from excerptcheck.twoway import identity, run
from oracles import SEVERAL, chain, cycle, pairs_of, put_out, random_acceptor, random_machine, state_after, takes, told_by
from pipes import A, B, COPYING, random_pairs
from samples import ALL, ANY, EVERYTHING, NONE, dice_for, has_flags, is_plain, random_sequence, sequences, star, then

TWO = ("Aa", "Ba")
COPY = (TWO, ((0, 0),), ((0, 1), (0, 1)), ((((), ("Aa",)), (("Ba",), ("Ba",))),))
EVERY = (TWO, ((0, 0),), (0,))
NOTHING = (TWO, ((0, 0),), ())


def completions(acceptor, sequence, most):
    return [tail for tail in sequences(acceptor[0], most) if takes(acceptor, sequence + tail)]


def certain_told(acceptor, machine, sequence, most):
    """The longest common beginning for all completions of at most `most` symbols, None if there are none."""
    rows = []
    for tail in completions(acceptor, sequence, most):
        outputs = put_out(machine, sequence + tail)[:len(sequence)]
        rows.append(pairs_of(outputs))
    if not rows:
        return None
    size = 0
    while all(len(row) > size and row[size] == rows[0][size] for row in rows):
        size += 1
    return rows[0][:size]


def possible_told(acceptor, machine, sequence, most):
    reads, _, right, _ = machine
    return tuple(sorted({state_after((reads, right, ()), tail[::-1])
                         for tail in completions(acceptor, sequence, most)}))


def random_parts(name, times):
    """Acceptors and machines of a few states, so that every right state of a completion is one of a short one."""
    dice = dice_for(name)
    for _ in range(times):
        reads = dice.choice([("Zz",), TWO, TWO, ("@a", "Ab", "Bz")])
        acceptor = random_acceptor(dice, reads, dice.randint(1, 3), dice.choice([0.2, 0.5, 1]))
        rights = dice.randint(1, 2 if len(reads) > 2 else 3)
        machine = random_machine(dice, reads, dice.randint(1, 3), rights, ("Aa", "@a"), dice.choice([1, 1, 2]))
        yield acceptor, machine, (len(acceptor[1]) * rights if len(reads) < 3 else 5)


class Certain(unittest.TestCase):
    def test_the_examples_of_the_document(self):
        self.assertEqual(certain(EVERY, COPY, ("Ba", "Aa")), (("Ba", 0),))
        self.assertEqual(certain(EVERY, COPY, ("Aa",)), ())
        self.assertEqual(certain(EVERY, COPY, ("Aa", "Ba")), (("Aa", 0), ("Ba", 1)))

    def test_the_empty_sequence(self):
        self.assertEqual(certain(EVERY, COPY, ()), ())
        self.assertIsNone(certain(NOTHING, COPY, ()))

    def test_sequences_without_a_completion(self):
        only = kind_machine(("a", "AB", then(A, B)))
        for sequence in (("Ba",), ("Aa", "Aa"), ("Aa", "Ba", "Aa")):
            self.assertIsNone(certain(only, COPY, sequence))
        for sequence in ((), ("Aa",), ("Ba", "Aa")):
            self.assertIsNone(certain(NOTHING, COPY, sequence))

    def test_symbols_that_are_not_read(self):
        for sequence in (("Zz",), ("Aa", "@a"), ("Ab", "Aa"), ("Ba", "Zz", "Ba")):
            self.assertIsNone(certain(EVERY, COPY, sequence))

    def test_only_completions_count(self):
        # A symbol of B always follows, or none can follow any more.
        only = kind_machine(("a", "AB", then(A, A, B)))
        self.assertEqual(certain(only, COPY, ("Aa",)), ())
        self.assertEqual(certain(only, COPY, ("Aa", "Aa")), (("Aa", 1),))
        self.assertEqual(certain(only, COPY, ("Aa", "Aa", "Ba")), (("Aa", 1), ("Ba", 2)))
        pairs = kind_machine(("a", "AB", star(then(A, B))))
        self.assertEqual(certain(pairs, COPY, ("Aa",)), (("Aa", 0),))

    def test_the_same_symbol_with_another_origin_is_not_the_same(self):
        # The last symbol of all tells whether the first symbol is put out, or the second one.
        machine = told_by(TWO, chain(TWO, 3), ((1, 2), (1, 1), (2, 2)), lambda before, symbol, behind:
                          ("Aa",) if (before, behind) in ((0, 1), (1, 2)) else ())
        self.assertEqual(run(machine, ("Aa", "Aa", "Aa")), (("Aa", 0),))
        self.assertEqual(run(machine, ("Aa", "Aa", "Ba")), (("Aa", 1),))
        self.assertEqual(certain(EVERY, machine, ("Aa", "Aa")), ())
        self.assertEqual(certain(kind_machine(("a", "AB", then(ALL, B))), machine, ("Aa", "Aa")), (("Aa", 1),))

    def test_the_common_beginning_may_end_within_an_output(self):
        machine = told_by(TWO, ((0, 0),), ((0, 1), (0, 1)),
                          lambda before, symbol, behind: (symbol, "@a") if behind else (symbol, "@b", "@a"))
        self.assertEqual(certain(EVERY, machine, ("Aa",)), (("Aa", 0),))
        self.assertEqual(certain(EVERY, machine, ("Aa", "Ba")), (("Aa", 0), ("@a", 0), ("Ba", 1)))
        longer = told_by(TWO, ((0, 0),), ((0, 1), (0, 1)),
                         lambda before, symbol, behind: (symbol, "@a") if behind else (symbol, "@a", "@a"))
        self.assertEqual(certain(EVERY, longer, ("Aa",)), (("Aa", 0), ("@a", 0)))

    def test_what_follows_a_doubtful_symbol_is_not_certain(self):
        late = told_by(TWO, ((0, 0),), ((0, 0), (0, 1)), lambda before, symbol, behind:
                       (symbol,) if symbol == "Ba" or behind else ())
        self.assertEqual(certain(EVERY, late, ("Ba", "Ba")), (("Ba", 0), ("Ba", 1)))

    def test_states_that_no_sequence_has_do_not_count(self):
        acceptor = (TWO, ((0, 0), (1, 0)), (0, 1))
        machine = told_by(TWO, ((0, 0), (1, 1)), ((0, 0), (1, 1)),
                          lambda before, symbol, behind: ("@a",) if before or behind else (symbol,))
        self.assertEqual(certain(acceptor, machine, ("Aa", "Ba")), (("Aa", 0), ("Ba", 1)))

    def test_random_acceptors_and_machines(self):
        several = 0
        for acceptor, machine, most in random_parts("certain", 150):
            for sequence in sequences(acceptor[0], 4 if len(acceptor[0]) < 3 else 2):
                found = certain(acceptor, machine, sequence)
                self.assertEqual(found, certain_told(acceptor, machine, sequence, most), (acceptor, machine, sequence))
                self.assertTrue(is_plain(found) and not has_flags(found))
                several += found not in (None, ()) and found != run(machine, sequence)
        self.assertGreater(several, 100)

    def test_long_sequences(self):
        self.assertEqual(certain(EVERY, COPY, ("Aa", "Ba") * 50), tuple(zip(("Aa", "Ba") * 50, range(100))))
        self.assertEqual(certain(EVERY, COPY, ("Ba",) + ("Aa",) * 99), (("Ba", 0),))

    def test_large_acceptors_and_machines(self):
        dice = dice_for("large certain")
        acceptor = random_acceptor(dice, SEVERAL, 200, 0.9)
        machine = random_machine(dice, SEVERAL, 40, 40, ("Aa",), 1)
        sequence = random_sequence(dice, SEVERAL, 100)
        found = certain(acceptor, machine, sequence)
        self.assertEqual(found, run(machine, sequence)[:len(found)])


class Streams(unittest.TestCase):
    def state(self, stream):
        return (stream.given, stream.told, stream.possible, len(stream), list(stream))

    def refuse(self, error, stream, *symbols):
        """The call raises the error and changes nothing."""
        before = self.state(stream)
        with self.assertRaises(error):
            if symbols:
                stream.feed(*symbols)
            else:
                stream.finish()
        self.assertEqual(self.state(stream), before)

    def test_the_example_of_the_interface(self):
        stream = Stream(kind_machine(EVERYTHING), COPY)
        self.assertEqual(stream.feed("Aa"), ())
        self.assertEqual(stream.possible, (0, 1))
        self.assertEqual(stream.feed("Ba"), (("Aa", 0), ("Ba", 1)))
        self.refuse(NotOfKind, stream, "@a")
        self.assertEqual(stream.finish(), ())
        self.assertEqual(list(stream), [("Aa", 0), ("Ba", 1)])

    def test_a_new_stream(self):
        stream = Stream(EVERY, COPY)
        self.assertEqual(self.state(stream), ((), (), (0, 1), 0, []))

    def test_finishing_hands_out_the_rest(self):
        last = told_by(TWO, ((0, 0),), chain(TWO, 2), lambda before, symbol, behind: (symbol,) * (1 - behind))
        stream = Stream(EVERY, last)
        for symbol in ("Aa", "Ba", "Aa"):
            self.assertEqual(stream.feed(symbol), ())
        self.assertEqual(stream.finish(), (("Aa", 2),))
        self.assertEqual(self.state(stream), (("Aa", "Ba", "Aa"), (("Aa", 2),), (0,), 3, [("Aa", 2)]))

    def test_finished_streams(self):
        stream = Stream(EVERY, COPY)
        stream.feed("Ba")
        self.assertEqual(stream.finish(), ())
        self.assertEqual(stream.possible, (0,))
        self.refuse(Finished, stream)
        for symbol in ("Aa", "Ba", "Zz"):
            self.refuse(Finished, stream, symbol)
        self.assertEqual(self.state(stream), (("Ba",), (("Ba", 0),), (0,), 1, [("Ba", 0)]))

    def test_finished_comes_before_not_of_kind(self):
        # Nothing can follow, and when it is finished neither can anything be given nor finished.
        only = kind_machine(("a", "AB", then(A, B)))
        stream = Stream(only, COPY)
        stream.feed("Aa")
        stream.feed("Ba")
        self.refuse(NotOfKind, stream, "Aa")
        self.assertEqual(stream.finish(), ())
        self.refuse(Finished, stream, "Aa")
        self.refuse(Finished, stream, "@a")
        self.refuse(Finished, stream)

    def test_a_symbol_with_which_no_completion_is_left(self):
        stream = Stream(kind_machine(("a", "AB", then(A, A, B))), COPY)
        for symbol in ("Ba", "@a", "Zz", "Ab"):
            self.refuse(NotOfKind, stream, symbol)
        self.assertEqual(stream.feed("Aa"), ())
        self.refuse(NotOfKind, stream, "Ba")
        self.assertEqual(stream.feed("Aa"), (("Aa", 1),))
        self.refuse(NotOfKind, stream, "Aa")
        self.assertEqual(stream.feed("Ba"), (("Ba", 2),))
        self.assertEqual(self.state(stream), (("Aa", "Aa", "Ba"), (("Aa", 1), ("Ba", 2)), (0,), 3,
                                              [("Aa", 1), ("Ba", 2)]))

    def test_finishing_where_the_sequence_is_not_accepted(self):
        stream = Stream(kind_machine(("a", "AB", then(A, B))), COPY)
        self.refuse(NotOfKind, stream)
        stream.feed("Aa")
        self.refuse(NotOfKind, stream)
        self.assertEqual(stream.feed("Ba"), (("Ba", 1),))
        self.assertEqual(stream.finish(), ())

    def test_nothing_is_accepted(self):
        for acceptor in (NOTHING, kind_machine(("a", "AB", NONE)), (TWO, ((0, 0), (1, 1)), (1,))):
            stream = Stream(acceptor, COPY)
            self.assertEqual(stream.possible, ())
            self.refuse(NotOfKind, stream, "Aa")
            self.refuse(NotOfKind, stream)

    def test_only_the_empty_sequence_is_accepted(self):
        stream = Stream((TWO, ((1, 1), (1, 1)), (0,)), COPY)
        self.assertEqual(stream.possible, (0,))
        self.refuse(NotOfKind, stream, "Aa")
        self.assertEqual(stream.finish(), ())
        self.assertEqual(self.state(stream), ((), (), (0,), 0, []))

    def test_streams_do_not_share_anything(self):
        acceptor = kind_machine(EVERYTHING)
        one, other = Stream(acceptor, COPY), Stream(acceptor, COPY)
        one.feed("Ba")
        self.assertEqual(self.state(other), ((), (), (0, 1), 0, []))

    def test_an_iteration_goes_over_what_was_told(self):
        stream = Stream(EVERY, identity(TWO))
        stream.feed("Ba")
        self.assertEqual([pair for pair in stream], [("Ba", 0)])
        stream.feed("Aa")
        self.assertEqual([pair for pair in stream], [("Ba", 0), ("Aa", 1)])
        self.assertEqual(tuple(stream), stream.told)

    def test_properties_cannot_be_changed_by_what_was_returned(self):
        stream = Stream(EVERY, COPY)
        stream.feed("Ba")
        for found in self.state(stream)[:3]:
            self.assertTrue(is_plain(found) and not has_flags(found))

    def test_random_streams(self):
        finished = refused = 0
        dice = dice_for("streams")
        for acceptor, machine, most in random_parts("streams", 150):
            stream = Stream(acceptor, machine)
            given, told = (), ()
            for _ in range(4):
                self.assertEqual(self.state(stream), (given, told, possible_told(acceptor, machine, given, most),
                                                      len(given), list(told)))
                symbol = dice.choice(acceptor[0] + ("Zz",))
                now = certain_told(acceptor, machine, given + (symbol,), most) if symbol in acceptor[0] else None
                if now is None:
                    self.refuse(NotOfKind, stream, symbol)
                    refused += 1
                else:
                    self.assertEqual(stream.feed(symbol), now[len(told):])
                    given, told = given + (symbol,), now
            if takes(acceptor, given):
                whole = pairs_of(put_out(machine, given))
                self.assertEqual(stream.finish(), whole[len(told):])
                self.assertEqual(self.state(stream), (given, whole, (0,), len(given), list(whole)))
                self.refuse(Finished, stream)
                self.refuse(Finished, stream, acceptor[0][0])
                finished += 1
            else:
                self.refuse(NotOfKind, stream)
        self.assertGreater(finished, 50)
        self.assertGreater(refused, 50)

    def test_streams_of_kinds_and_pipelines(self):
        for kind, pipeline in random_pairs("streams of pipelines", 40):
            acceptor, machine = kind_machine(kind), pipeline_machine(kind[0], kind[1], pipeline)
            for document in sequences(acceptor[0], 3):
                if takes(acceptor, document):
                    stream = Stream(acceptor, machine)
                    handed = ()
                    for at, symbol in enumerate(document):
                        handed += stream.feed(symbol)
                        self.assertEqual(handed, certain(acceptor, machine, document[:at + 1]))
                    self.assertEqual(handed + stream.finish(), excerpt(pipeline, document))

    def test_100_symbols(self):
        stream = Stream(EVERY, COPY)
        handed = ()
        for symbol in ("Aa", "Ba") * 50:
            handed += stream.feed(symbol)
        self.assertEqual(handed, tuple(zip(("Aa", "Ba") * 50, range(100))))
        self.assertEqual(len(stream), 100)
        stream = Stream(EVERY, COPY)
        for _ in range(100):
            self.assertEqual(stream.feed("Aa"), ())
        self.assertEqual(stream.finish(), ())
        self.assertEqual(stream.told, ())

    def test_large_acceptors_and_machines(self):
        dice = dice_for("large streams")
        acceptor = (SEVERAL, cycle(SEVERAL, 200), (150,))
        machine = random_machine(dice, SEVERAL, 40, 40, ("Aa",), 1)
        stream = Stream(acceptor, machine)
        for symbol in random_sequence(dice, SEVERAL, 100):
            stream.feed(symbol)
        self.refuse(NotOfKind, stream)
        self.assertEqual(stream.told, run(machine, stream.given)[:len(stream.told)])

    def test_whole_documents_of_copies_are_certain_at_once(self):
        machine = pipeline_machine("a", "AB", COPYING)
        stream = Stream(kind_machine(("a", "AB", then(ANY, ALL))), machine)
        self.refuse(NotOfKind, stream)
        for at, symbol in enumerate(("Ba", "Aa", "Aa", "Ba")):
            self.assertEqual(stream.feed(symbol), ((symbol, at),))
        self.assertEqual(stream.finish(), ())


if __name__ == "__main__":
    unittest.main()
