"""Graphs of acceptors and two-way machines: [180] to [184] and excerptcheck/graphs.py in the interface."""

import unittest

from excerptcheck.cascades import pipeline_machine
from excerptcheck.errors import TooComplex, TooLarge
from excerptcheck.graphs import edges_along, graph, graph_of, lengths
from excerptcheck.kinds import kind_machine, of_kind
from excerptcheck.pipelines import excerpt
from excerptcheck.twoway import identity
from oracles import (SEVERAL, chain, complete_paths, cycle, graph_told, put_out, random_acceptor, random_machine, takes,
                     told_by)
from samples import (ALL, ANY, EMPTY, EVERYTHING, NONE, PIPELINE, both, dice_for, has_flags, is_plain, no, of,
                     random_pipeline, random_tree, sequences, star, then)

TWO = ("Aa", "Ba")
COPY = (TWO, ((0, 0),), ((0, 1), (0, 1)), ((((), ("Aa",)), (("Ba",), ("Ba",))),))
A, B, EDITOR = of("A"), of("B"), of("@")
FOURTH = then(ALL, A, ANY, ANY, ANY)
FIVES, SEVENS, EIGHTS = [star(then(*[ANY] * many)) for many in (5, 7, 8)]
EXAMPLE = (((0, 0, 0), (0, 0, 1)), (0, 1), (0,),
           ((0, "Aa", 0, ()), (0, "Aa", 1, ("Aa",)), (1, "Ba", 0, ("Ba",)), (1, "Ba", 1, ("Ba",))))
EMPTY_GRAPH = ((), (), (), ())


def rule(before=ALL, target=ANY, after=ALL, output="$"):
    return (before, target, after, output)


def every(reads, rows):
    """The acceptor with these rows all states of which are accepting."""
    return (reads, rows, tuple(range(len(rows))))


def random_graphs(name, times, writes=TWO, most=2):
    """Small acceptors and machines that read the same symbols."""
    dice = dice_for(name)
    for _ in range(times):
        reads = dice.choice([("Zz",), TWO, ("@a", "Ab")])
        acceptor = random_acceptor(dice, reads, dice.randint(1, 3), dice.choice([0.2, 0.5, 1]))
        yield acceptor, random_machine(dice, reads, dice.randint(1, 2), dice.randint(1, 2), writes, most)


class GraphOf(unittest.TestCase):
    def check(self, acceptor, machine, most=5):
        found = graph_of(acceptor, machine)
        self.assertEqual(found, graph_told(acceptor, machine, most), (acceptor, machine))
        self.assertTrue(is_plain(found) and not has_flags(found))
        self.assertEqual(found[0], tuple(sorted(set(found[0]))))
        places = [edge[:3] for edge in found[3]]
        self.assertEqual(places, sorted(set(places)))
        return found

    def test_the_example_of_the_interface(self):
        self.assertEqual(self.check(kind_machine(EVERYTHING), COPY), EXAMPLE)

    def test_nothing_is_accepted(self):
        for rows in (((0, 0),), ((1, 0), (0, 1))):
            self.assertEqual(self.check((TWO, rows, ()), COPY), EMPTY_GRAPH)
        # An accepting state to which no sequence leads.
        self.assertEqual(self.check((TWO, ((0, 0), (1, 1)), (1,)), COPY), EMPTY_GRAPH)

    def test_only_the_empty_sequence_is_accepted(self):
        self.assertEqual(self.check((TWO, ((1, 1), (1, 1)), (0,)), COPY), (((0, 0, 0),), (0,), (0,), ()))

    def test_one_sequence_is_accepted(self):
        only = (TWO, ((1, 3), (3, 2), (3, 3), (3, 3)), (2,))
        self.assertEqual(self.check(only, COPY), (((0, 0, 0), (0, 1, 1), (0, 2, 0)), (0,), (2,),
                                                  ((0, "Aa", 1, ("Aa",)), (1, "Ba", 2, ("Ba",)))))

    def test_states_that_no_accepted_sequence_has_are_left_out(self):
        # State 2 leads to no accepting state, and no sequence leads to state 3.
        acceptor = (TWO, ((1, 2), (1, 2), (2, 2), (1, 0)), (1, 3))
        found = self.check(acceptor, identity(TWO))
        self.assertEqual(found, (((0, 0, 0), (0, 1, 0)), (0,), (1,), ((0, "Aa", 1, ("Aa",)), (1, "Aa", 1, ("Aa",)))))
        # Left and right states that no sequence has, and those that no accepted sequence has.
        machine = told_by(TWO, ((1, 2), (1, 2), (2, 2), (0, 0)), ((0, 1), (1, 1), (0, 0)),
                          lambda before, symbol, behind: (symbol,) * (before + behind))
        found = self.check(acceptor, machine)
        self.assertEqual(found[0], ((0, 0, 0), (1, 1, 0)))
        self.assertEqual(found[3], ((0, "Aa", 1, ()), (1, "Aa", 1, ("Aa",))))

    def test_a_right_state_that_only_a_rest_that_is_not_accepted_has(self):
        # Only sequences of Aa are accepted, so no symbol Ba ever stands behind.
        acceptor = (TWO, ((0, 1), (1, 1)), (0,))
        self.assertEqual(self.check(acceptor, COPY), (((0, 0, 0),), (0,), (0,), ((0, "Aa", 0, ()),)))

    def test_start_points_and_end_points(self):
        # The left state and the state come back to 0, so there are start points in the midst of sequences.
        acceptor = (TWO, cycle(TWO, 2), (0,))
        found = self.check(acceptor, COPY)
        self.assertEqual(found[0], ((0, 0, 0), (0, 0, 1), (0, 1, 0), (0, 1, 1)))
        self.assertEqual((found[1], found[2]), ((0, 1), (0,)))
        # The accepting state has points that are no end points, as something else stands behind.
        found = self.check((TWO, cycle(TWO, 2), (1,)), COPY)
        self.assertEqual((found[1], found[2]), ((0, 1), (2,)))

    def test_the_output_of_an_edge_is_told_by_what_stands_before_and_behind(self):
        machine = told_by(TWO, ((1, 0), (0, 1)), ((0, 1), (1, 0)),
                          lambda before, symbol, behind: (symbol, "@" + "abcd"[2 * before + behind]))
        found = self.check((TWO, ((0, 0),), (0,)), machine)
        self.assertEqual(len(found[0]), 4)
        self.assertEqual(sorted({edge[3][1] for edge in found[3]}), ["@a", "@b", "@c", "@d"])

    def test_random_acceptors_and_machines(self):
        for acceptor, machine in random_graphs("graphs", 300):
            self.check(acceptor, machine)

    def test_random_acceptors_and_machines_of_more_states(self):
        dice = dice_for("larger graphs")
        for _ in range(20):
            acceptor = random_acceptor(dice, TWO, dice.randint(2, 4), 0.3)
            self.check(acceptor, random_machine(dice, TWO, dice.randint(1, 3), dice.randint(1, 3)), 7)

    def test_twelve_symbols(self):
        dice = dice_for("graphs over twelve symbols")
        for _ in range(5):
            self.check(random_acceptor(dice, SEVERAL, 2), random_machine(dice, SEVERAL, 2, 2), 2)


class Paths(unittest.TestCase):
    """[182]: every accepted sequence is read along exactly one complete path, and no other one along any."""

    def check(self, acceptor, machine, most):
        _, starts, ends, edges = found = graph_of(acceptor, machine)
        for sequence in sequences(acceptor[0], most):
            paths = complete_paths(starts, ends, edges, sequence)
            if takes(acceptor, sequence):
                self.assertEqual(edges_along(found, sequence), paths[0])
                self.assertEqual(len(paths), 1)
                self.assertEqual(tuple(edges[index][3] for index in paths[0]), put_out(machine, sequence))
                self.assertTrue(is_plain(paths[0]))
            else:
                self.assertEqual(paths, [])
                self.assertIsNone(edges_along(found, sequence))

    def test_the_example_of_the_interface(self):
        found = graph(EVERYTHING, PIPELINE)
        self.assertEqual(edges_along(found, ("Aa", "Ba", "Ba", "Aa")), (1, 3, 2, 0))
        self.check(kind_machine(EVERYTHING), COPY, 8)

    def test_the_empty_sequence(self):
        self.assertEqual(edges_along(EXAMPLE, ()), ())
        self.assertIsNone(edges_along(EMPTY_GRAPH, ()))
        self.assertIsNone(edges_along(graph_of((TWO, ((1, 0), (1, 0)), (1,)), COPY), ()))

    def test_random_acceptors_and_machines(self):
        for acceptor, machine in random_graphs("paths", 150):
            self.check(acceptor, machine, 5)

    def test_symbols_that_are_not_read(self):
        for sequence in (("Ab",), ("@a",), ("Zz",), ("Aa", "Zz"), ("Zz", "Aa"), ("Aa", "@a", "Ba")):
            self.assertIsNone(edges_along(EXAMPLE, sequence))
            self.assertIsNone(edges_along(EMPTY_GRAPH, sequence))

    def test_sequences_of_100_symbols(self):
        sequence = ("Aa", "Ba") * 50
        self.assertEqual(edges_along(EXAMPLE, sequence), (1, 2) * 49 + (1, 2))
        self.assertEqual(edges_along(EXAMPLE, ("Aa",) * 100), (0,) * 100)
        self.assertIsNone(edges_along(EXAMPLE, ("Aa",) * 99 + ("Zz",)))


class Bounds(unittest.TestCase):
    def refuse(self, acceptor, machine):
        with self.assertRaises(TooLarge) as caught:
            graph_of(acceptor, machine)
        self.assertIsNone(caught.exception.stage)

    def test_exactly_200_points(self):
        one = ("Aa",)
        for acceptor, machine in (
                (every(one, chain(one, 200)), identity(one)),
                (every(one, cycle(one, 200)), identity(one)),
                (every(one, cycle(one, 8)), counter(25, 1)), (every(one, cycle(one, 8)), counter(1, 25)),
                (every(one, cycle(one, 1)), counter(8, 25)), (every(one, cycle(one, 5)), counter(1, 40)),
                (every(one, cycle(one, 10)), counter(10, 20))):
            found = graph_of(acceptor, machine)
            self.assertEqual(len(found[0]), 200)
            self.assertEqual(len(set(found[0])), 200)
            self.assertEqual(edges_along(found, ("Zz",)), None)

    def test_exactly_201_points(self):
        # 67 states, and 3 left or right states; no triple is left out, as 67 and 3 have no common divisor.
        self.refuse(every(("Aa",), cycle(("Aa",), 67)), counter(3, 1))
        self.refuse(every(("Aa",), cycle(("Aa",), 67)), counter(1, 3))
        self.assertEqual(len(graph_of(every(("Aa",), cycle(("Aa",), 66)), counter(1, 3))[0]), 198)

    def test_points_that_are_left_out_do_not_count(self):
        # There are 200 states and 40 states on either side, but only few sequences are accepted.
        found = graph_of((("Aa",), chain(("Aa",), 200), (1,)), counter(40, 40))
        self.assertEqual(found[0], ((0, 0, 1), (1, 1, 0)))
        found = graph_of((("Aa",), ((1,), (2,), (2,)), (1,)), counter(40, 40))
        self.assertEqual(found[0], ((0, 0, 1), (1, 1, 0)))
        self.assertEqual(len(graph_of((TWO, ((1, 1), (1, 1)), (0,)), wide_counter(40, 40))[0]), 1)

    def test_many_more_points(self):
        one = ("Aa",)
        self.refuse(every(one, cycle(one, 200)), counter(40, 40))
        dice = dice_for("many more points")
        self.refuse(random_acceptor(dice, SEVERAL, 200), random_machine(dice, SEVERAL, 40, 40))

    def test_exactly_2000_edges(self):
        ten = SEVERAL[:10]
        found = graph_of(every(ten, cycle(ten, 200)), identity(ten))
        self.assertEqual((len(found[0]), len(found[3])), (200, 2000))
        self.assertEqual(found[3][-1], (199, "Ca", 0, ("Ca",)))
        found = graph_of(with_edges(2000), identity(SEVERAL))
        self.assertEqual(len(found[3]), 2000)

    def test_exactly_2001_edges(self):
        self.refuse(with_edges(2001), identity(SEVERAL))
        self.assertEqual(len(graph_of(with_edges(1999), identity(SEVERAL))[3]), 1999)

    def test_many_more_edges(self):
        self.refuse(every(SEVERAL, cycle(SEVERAL, 167)), identity(SEVERAL))
        self.assertEqual(len(graph_of(every(SEVERAL, cycle(SEVERAL, 166)), identity(SEVERAL))[3]), 1992)


def counter(lefts, rights):
    """A machine over one symbol that counts on both sides."""
    return told_by(("Aa",), cycle(("Aa",), lefts), cycle(("Aa",), rights), lambda before, symbol, behind: (symbol,))


def wide_counter(lefts, rights):
    return told_by(TWO, cycle(TWO, lefts), cycle(TWO, rights), lambda before, symbol, behind: (symbol,))


def with_edges(many):
    """An acceptor over 12 symbols with 190 states from which so many symbols lead on; the others lead nowhere."""
    rows = []
    left = many - 190
    for state in range(190):
        # One symbol leads around, the others back to the beginning as long as edges are left.
        others = min(left, 11)
        left -= others
        rows.append(((state + 1) % 190,) + (0,) * others + (190,) * (11 - others))
    rows.append((190,) * 12)
    return (SEVERAL, tuple(rows), tuple(range(190)))


class Graph(unittest.TestCase):
    def test_the_examples_of_the_interface(self):
        self.assertEqual(graph(EVERYTHING, PIPELINE), graph_of(kind_machine(EVERYTHING), COPY))
        self.assertEqual(graph(EVERYTHING, PIPELINE), EXAMPLE)

    def test_a_kind_without_a_document(self):
        self.assertEqual(graph(("a", "AB", NONE), PIPELINE), EMPTY_GRAPH)
        self.assertEqual(graph(("a", "AB", EMPTY), PIPELINE), (((0, 0, 0),), (0,), (0,), ()))

    def test_random_kinds_and_pipelines(self):
        dice = dice_for("graphs of pipelines")
        done = 0
        for _ in range(80):
            kind, pipeline = ("ab", "AB", random_tree(dice, dice.randint(1, 7))), random_pipeline(dice, 4)
            try:
                found = graph(kind, pipeline)
            except (TooComplex, TooLarge):
                continue
            self.assertEqual(found, graph_of(kind_machine(kind), pipeline_machine("ab", "AB", pipeline)))
            for document in sequences(("Aa", "Ab", "Ba", "Bb"), 3):
                path = edges_along(found, document)
                self.assertIs(path is not None, of_kind(kind, document))
                if path is not None:
                    told = tuple((symbol, at) for at, index in enumerate(path) for symbol in found[3][index][3])
                    self.assertEqual(told, excerpt(pipeline, document))
            done += 1
        self.assertGreater(done, 40)

    def test_the_alphabet_is_that_of_the_kind(self):
        pipeline = ((rule(output="$a"),), (rule(target=EDITOR),))
        found = graph(("ab", "QZ", ALL), pipeline)
        self.assertEqual(found[3], tuple((0, symbol, 0, ("@a",)) for symbol in ("Qa", "Qb", "Za", "Zb")))


LARGE = tuple(rule(before=tree) for tree in (FIVES, EIGHTS, EMPTY))


class Errors(unittest.TestCase):
    def too_large(self, stage, kind, *pipeline):
        with self.assertRaises(TooLarge) as caught:
            graph(kind, pipeline)
        self.assertEqual(caught.exception.stage, stage)

    def too_complex(self, kind, *pipeline):
        with self.assertRaises(TooComplex):
            graph(kind, pipeline)

    def test_the_kind_comes_first(self):
        for stages in ((LARGE,), ((rule(),), LARGE), ((rule(before=FOURTH),),), ((rule(),),)):
            self.too_complex(("a", "AB", FOURTH), *stages)
        self.too_complex(("a", "AB", both(NONE, FOURTH)), LARGE)

    def test_then_the_pipeline(self):
        for kind in (EVERYTHING, ("a", "AB", NONE), ("a", "AB", EMPTY)):
            self.too_large(0, kind, LARGE)
            self.too_large(1, kind, (rule(),), LARGE)
            self.too_large(2, kind, (rule(),), (rule(),), LARGE)
            self.too_complex(kind, (rule(before=FOURTH),))
            self.too_complex(kind, (rule(),), (rule(before=FOURTH),))

    def test_then_the_graph(self):
        # There are 12 counts of the kind, and counts by 5 and 7 on one side, or by 5 on both.
        twelve = ("a", "AB", both(star(then(ANY, ANY, ANY)), star(then(ANY, ANY, ANY, ANY))))
        self.assertEqual(len(graph(twelve, ((rule(FIVES),),))[0]), 60)
        self.assertEqual(len(graph(twelve, (LARGE[:2],))[0]), 120)
        self.too_large(None, twelve, (rule(FIVES), rule(SEVENS)))
        self.too_large(None, twelve, (rule(after=FIVES), rule(after=SEVENS)))
        self.too_large(None, twelve, (rule(FIVES, ANY, FIVES),))
        self.too_large(None, twelve, (rule(),), (rule(FIVES, ANY, FIVES),))
        self.too_large(0, twelve, LARGE)


class Lengths(unittest.TestCase):
    def told(self, acceptor, machine, most):
        found = []
        for many in range(most + 1):
            sizes = [len([symbol for output in put_out(machine, sequence) for symbol in output])
                     for sequence in sequences(acceptor[0], most) if len(sequence) == many and takes(acceptor, sequence)]
            found.append(tuple((size, sizes.count(size)) for size in sorted(set(sizes))))
        return tuple(found)

    def test_the_example_of_the_interface(self):
        self.assertEqual(lengths(graph(EVERYTHING, PIPELINE), most=2), (((0, 1),), ((0, 1), (1, 1)),
                                                                        ((0, 1), (1, 1), (2, 2))))

    def test_most_0(self):
        self.assertEqual(lengths(EXAMPLE, most=0), (((0, 1),),))
        self.assertEqual(lengths(EMPTY_GRAPH, most=0), ((),))
        self.assertEqual(lengths(graph_of((TWO, ((1, 0), (1, 0)), (1,)), COPY), most=0), ((),))

    def test_most_12(self):
        self.assertEqual(lengths(EMPTY_GRAPH, most=12), ((),) * 13)
        self.assertEqual(lengths(EXAMPLE, most=12), self.told(kind_machine(EVERYTHING), COPY, 12))
        nine = graph(("abc", "ABC", ALL), ((rule(output="$$$"),),) * 3)
        self.assertEqual(lengths(nine, most=12), tuple(((27 * many, 9 ** many),) for many in range(13)))
        twelve = graph_of((SEVERAL, ((0,) * 12,), (0,)), identity(SEVERAL))
        self.assertEqual(lengths(twelve, most=12)[12], ((12, 12 ** 12),))

    def test_only_complete_paths_count(self):
        found = lengths(graph(("a", "AB", star(then(A, B, B))), PIPELINE), most=9)
        self.assertEqual(found, tuple(((many, 1),) if many % 3 == 0 else () for many in range(10)))

    def test_random_acceptors_and_machines(self):
        for acceptor, machine in random_graphs("lengths", 120, most=3):
            found = lengths(graph_of(acceptor, machine), most=5)
            self.assertEqual(found, self.told(acceptor, machine, 5))
            self.assertTrue(is_plain(found) and not has_flags(found))

    def test_paths_of_one_number_of_edges_with_many_lengths(self):
        one = graph(("a", "ABC", ALL), ((rule(target=A, output="$$$"), rule(target=B)),))
        told = lengths(one, most=12)[12]
        self.assertEqual(sum(many for _, many in told), 3 ** 12)
        self.assertEqual((told[0], told[1], told[-1]), ((0, 1), (1, 12), (36, 1)))
        self.assertEqual(told, tuple(sorted(told)))
        self.assertEqual(dict(told)[3], 12 + 220)


if __name__ == "__main__":
    unittest.main()
