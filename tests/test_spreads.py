"""Spreads, listed states, refused outputs: [220], [221] and excerptcheck/spreads.py in the interface."""

import unittest

from excerptcheck.graphs import graph, graph_of
from excerptcheck.machines import machine
from excerptcheck.spreads import first_refused, spread, spread_defect
from excerptcheck.twoway import identity
from oracles import (SEVERAL, chain, complete_paths, cycle, put_out, random_acceptor, random_machine, state_after,
                     takes, told_by)
from samples import (ALL, ANY, EVERYTHING, NONE, PIPELINE, dice_for, has_flags, is_plain, no, of, sequences, star, then)

A, B = of("A"), of("B")
THREE = ("@a", "Aa", "Ba")
GRAPH = graph(EVERYTHING, PIPELINE)
LONELY = machine(THREE, no(then(ALL, A, A, ALL)))
NOTHING = graph(("a", "AB", NONE), PIPELINE)


def after(acceptor, state, output):
    """The state to which a state leads by an output."""
    reads, rows, _ = acceptor
    for symbol in output:
        state = rows[state][reads.index(symbol)]
    return state


def spread_told(found, acceptor):
    """The spread by going along every edge again and again, until nothing is added any more."""
    points, starts, _, edges = found
    listed = [{0} if point in starts else set() for point in range(len(points))]
    grown = True
    while grown:
        grown = False
        for source, _, target, output in edges:
            states = {after(acceptor, state, output) for state in listed[source]}
            grown = grown or not states <= listed[target]
            listed[target] |= states
    return tuple(tuple(sorted(states)) for states in listed)


def defect_told(found, acceptor, lists):
    points, starts, ends, edges = found
    for point in range(len(points)):
        if point in starts and 0 not in lists[point]:
            return ("start", point)
    for point in range(len(points)):
        if point in ends and not set(lists[point]) <= set(acceptor[2]):
            return ("end", point)
    for index, (source, _, target, output) in enumerate(edges):
        if not {after(acceptor, state, output) for state in lists[source]} <= set(lists[target]):
            return ("edge", index)
    return None


def random_graphs(name, times):
    """Small graphs, and acceptors that read at least what is put out."""
    dice = dice_for(name)
    for _ in range(times):
        reads = dice.choice([("Zz",), ("Aa", "Ba"), ("@a", "Ab")])
        kind = random_acceptor(dice, reads, dice.randint(1, 3), dice.choice([0.3, 0.6, 1]))
        twoway = random_machine(dice, reads, dice.randint(1, 2), dice.randint(1, 2), ("Aa", "Ba"))
        acceptor = random_acceptor(dice, dice.choice([("Aa", "Ba"), ("@c", "Aa", "Ba", "Zz")]), dice.randint(1, 4),
                                   dice.choice([0.4, 0.7, 0.9]))
        yield dice, kind, twoway, graph_of(kind, twoway), acceptor


class Spread(unittest.TestCase):
    def test_the_example_of_the_interface(self):
        self.assertEqual(spread(GRAPH, LONELY), ((0,), (0, 1)))

    def test_a_graph_without_points(self):
        self.assertEqual(spread(NOTHING, LONELY), ())

    def test_start_points_list_state_0(self):
        only_empty = graph_of((("Aa",), ((1,), (1,)), (0,)), identity(("Aa",)))
        self.assertEqual(spread(only_empty, (("Aa",), ((1,), (0,)), ())), ((0,),))

    def test_along_a_line(self):
        straight = graph_of((("Aa",), chain(("Aa",), 5), (4,)), identity(("Aa",)))
        self.assertEqual(spread(straight, (("Aa",), cycle(("Aa",), 3), ())), ((0,), (1,), (2,), (0,), (0, 1, 2)))

    def test_outputs_of_several_symbols_and_of_none(self):
        doubling = told_by(("Aa", "Ba"), ((0, 0),), ((0, 0),),
                           lambda before, symbol, behind: (symbol, "@a", symbol) if symbol == "Aa" else ())
        found = graph_of((("Aa", "Ba"), ((1, 0), (1, 2), (2, 2)), (1,)), doubling)
        self.assertEqual(spread(found, (("@a", "Aa"), ((1, 2), (3, 1), (4, 0), (0, 4), (2, 3)), ())),
                         spread_told(found, (("@a", "Aa"), ((1, 2), (3, 1), (4, 0), (0, 4), (2, 3)), ())))
        counting = (("@a", "Aa"), tuple((state, (state + 1) % 6) for state in range(6)), ())
        self.assertEqual(spread(found, counting), ((0,), (0, 2, 4)))

    def test_random_graphs(self):
        for _, _, _, found, acceptor in random_graphs("spreads", 200):
            told = spread(found, acceptor)
            self.assertEqual(told, spread_told(found, acceptor))
            self.assertTrue(is_plain(told) and not has_flags(told))

    def test_by_going_along_all_short_paths(self):
        for _, kind, _, found, acceptor in random_graphs("short paths", 60):
            told = spread(found, acceptor)
            met = [set() for _ in found[0]]
            for end in range(len(found[0])):
                for sequence in sequences(kind[0], 6):
                    for path in complete_paths(found[1], (end,), found[3], sequence):
                        state = 0
                        for index in path:
                            state = after(acceptor, state, found[3][index][3])
                        met[end].add(state)
            for states, listed in zip(met, told):
                self.assertLessEqual(states, set(listed))

    def test_200_points_and_200_states(self):
        dice = dice_for("large spreads")
        rows = tuple(tuple(dice.randrange(160) for _ in SEVERAL) for _ in range(160))
        found = graph_of((SEVERAL, rows, tuple(range(160))), random_machine(dice, SEVERAL, 1, 1, SEVERAL, 2))
        acceptor = random_acceptor(dice, SEVERAL, 200)
        self.assertEqual(spread(found, acceptor), spread_told(found, acceptor))


class SpreadDefect(unittest.TestCase):
    def test_the_spread_of_the_example(self):
        self.assertIsNone(spread_defect(GRAPH, LONELY, ((0,), (0, 1))))
        self.assertIsNone(spread_defect(NOTHING, LONELY, ()))

    def test_each_form_alone(self):
        # Both points are start points, the first one is the end point; class 2 is the one that is refused.
        self.assertEqual(spread_defect(GRAPH, LONELY, ((1,), (0, 1))), ("start", 0))
        self.assertEqual(spread_defect(GRAPH, LONELY, ((0,), (1,))), ("start", 1))
        self.assertEqual(spread_defect(GRAPH, LONELY, ((0, 2), (0, 1, 2))), ("end", 0))
        self.assertEqual(spread_defect(GRAPH, LONELY, ((0,), (0,))), ("edge", 1))
        self.assertEqual(spread_defect(GRAPH, LONELY, ((0, 1), (0, 1))), ("edge", 1))
        self.assertEqual(spread_defect(GRAPH, LONELY, ((0,), (0, 1, 2))), ("edge", 2))

    def test_more_states_than_needed_may_be_listed(self):
        every = (THREE, ((1, 0, 0), (1, 1, 1)), (0, 1))
        self.assertEqual(spread(GRAPH, every), ((0,), (0,)))
        self.assertIsNone(spread_defect(GRAPH, every, ((0,), (0,))))
        self.assertIsNone(spread_defect(GRAPH, every, ((0, 1), (0, 1))))
        self.assertEqual(spread_defect(GRAPH, every, ((0, 1), (0,))), ("edge", 1))

    def test_the_first_of_several(self):
        wrong = ((2,), (2,))
        self.assertEqual(spread_defect(GRAPH, LONELY, wrong), ("start", 0))
        self.assertEqual(spread_defect(GRAPH, LONELY, ((0, 2), (2,))), ("start", 1))
        self.assertEqual(spread_defect(GRAPH, LONELY, ((0, 2), (0,))), ("end", 0))
        self.assertEqual(spread_defect(GRAPH, LONELY, ((0, 1), (0,))), ("edge", 1))
        self.assertEqual(spread_defect(GRAPH, LONELY, ((), ())), ("start", 0))

    def test_points_where_nothing_is_listed(self):
        straight = graph_of((("Aa",), chain(("Aa",), 3), (2,)), identity(("Aa",)))
        every = (("Aa",), ((0,),), (0,))
        self.assertEqual(spread_defect(straight, every, ((), (), ())), ("start", 0))
        self.assertEqual(spread_defect(straight, every, ((0,), (), ())), ("edge", 0))
        self.assertEqual(spread_defect(straight, every, ((0,), (0,), ())), ("edge", 1))
        self.assertIsNone(spread_defect(straight, every, ((0,), (0,), (0,))))

    def test_states_at_points_that_are_no_end_points_need_not_be_accepting(self):
        straight = graph_of((("Aa",), chain(("Aa",), 2) + ((2,),), (1,)), identity(("Aa",)))
        self.assertIsNone(spread_defect(straight, (("Aa",), ((1,), (1,)), (1,)), ((0,), (1,))))
        self.assertEqual(spread_defect(straight, (("Aa",), ((1,), (1,)), (0,)), ((0,), (1,))), ("end", 1))

    def test_random_lists(self):
        forms = {}
        for dice, _, _, found, acceptor in random_graphs("lists", 500):
            states = range(len(acceptor[1]))
            lists = [tuple(state for state in states if dice.random() < 0.7) for _ in found[0]]
            if dice.random() < 0.5:
                lists = [tuple(sorted({0, *listed} & {0, *acceptor[2]})) for listed in lists]
            expected = defect_told(found, acceptor, tuple(lists))
            self.assertEqual(spread_defect(found, acceptor, tuple(lists)), expected)
            forms[expected and expected[0]] = forms.get(expected and expected[0], 0) + 1
        self.assertTrue(all(forms[form] > 10 for form in (None, "start", "end", "edge")), forms)

    def test_a_spread_is_valid_if_everything_is_accepted(self):
        for _, _, _, found, acceptor in random_graphs("valid spreads", 200):
            defect = spread_defect(found, acceptor, spread(found, acceptor))
            refused = first_refused(found, acceptor, most=60)
            self.assertIs(defect is None, refused is None)
            self.assertTrue(defect is None or defect[0] == "end")


class FirstRefused(unittest.TestCase):
    def test_the_example_of_the_interface(self):
        self.assertEqual(first_refused(GRAPH, machine(THREE, star(B)), most=60), ("Aa", "Ba"))

    def test_nothing_is_refused(self):
        self.assertIsNone(first_refused(GRAPH, LONELY, most=60))
        self.assertIsNone(first_refused(NOTHING, machine(THREE, NONE), most=60))

    def test_most_0(self):
        self.assertEqual(first_refused(GRAPH, machine(THREE, NONE), most=0), ())
        self.assertIsNone(first_refused(GRAPH, machine(THREE, star(B)), most=0))
        self.assertIsNone(first_refused(graph(("a", "AB", ANY), PIPELINE), machine(THREE, NONE), most=0))
        self.assertEqual(first_refused(graph(("a", "AB", ANY), PIPELINE), machine(THREE, NONE), most=1), ("Aa",))

    def test_most_just_enough_and_one_too_few(self):
        refusing = machine(THREE, star(B))
        self.assertEqual(first_refused(GRAPH, refusing, most=2), ("Aa", "Ba"))
        self.assertIsNone(first_refused(GRAPH, refusing, most=1))

    def test_most_60(self):
        every = graph(EVERYTHING, (((ALL, A, ALL, "$"),),))
        for many in (59, 60, 61):
            # As many symbols of A as this are too many.
            counting = (("Aa",), chain(("Aa",), many + 1), tuple(range(many)))
            self.assertEqual(first_refused(every, counting, most=60), ("Aa",) * many if many <= 60 else None)
        straight = graph_of((("Aa",), chain(("Aa",), 63), (61,)), identity(("Aa",)))
        self.assertIsNone(first_refused(straight, (("Aa",), ((0,),), ()), most=60))
        straight = graph_of((("Aa",), chain(("Aa",), 63), (60,)), identity(("Aa",)))
        self.assertEqual(first_refused(straight, (("Aa",), ((0,),), ()), most=60), ("Aa",) * 60)

    def test_a_shorter_sequence_comes_first_and_then_the_lesser_symbol(self):
        # Two symbols of A or one of B are refused, but B is put out only if A stands behind it.
        stage = ((ALL, A, ALL, "$"), (ALL, B, then(A, ALL), "$"))
        self.assertEqual(first_refused(graph(EVERYTHING, (stage,)), machine(THREE, star(A)), most=60), ("Ba", "Aa"))
        either_of_both = machine(THREE, no(then(ANY, ANY, ALL)))
        self.assertEqual(first_refused(graph(EVERYTHING, (stage,)), either_of_both, most=60), ("Aa", "Aa"))

    def test_only_complete_paths_count(self):
        # The output is refused on the way, but accepted in the end.
        kind = ("a", "AB", star(then(A, A)))
        even = machine(THREE, star(then(ANY, ANY)))
        self.assertIsNone(first_refused(graph(kind, (((ALL, ANY, ALL, "$"),),)), even, most=60))
        self.assertEqual(first_refused(graph(EVERYTHING, (((ALL, ANY, ALL, "$"),),)), even, most=60), ("Aa",))

    def test_random_graphs(self):
        met = 0
        for _, kind, twoway, found, acceptor in random_graphs("refused", 300):
            refused = None
            for sequence in sequences(kind[0], 5):
                output = tuple(symbol for part in put_out(twoway, sequence) for symbol in part)
                if takes(kind, sequence) and not takes(acceptor, output):
                    refused = sequence
                    break
            for most in (0, 2, 5):
                expected = refused if refused is not None and len(refused) <= most else None
                self.assertEqual(first_refused(found, acceptor, most=most), expected)
            met += refused is not None
        self.assertGreater(met, 50)

    def test_200_points_and_200_states(self):
        dice = dice_for("large refusals")
        rows = tuple(tuple(dice.randrange(160) for _ in SEVERAL) for _ in range(160))
        twoway = random_machine(dice, SEVERAL, 1, 1, SEVERAL, 2)
        found = graph_of((SEVERAL, rows, tuple(range(160))), twoway)
        acceptor = random_acceptor(dice, SEVERAL, 200, 1)
        self.assertIsNone(first_refused(found, acceptor, most=60))
        few = acceptor[:2] + (tuple(range(199)),)
        refused = first_refused(found, few, most=60)
        output = tuple(symbol for part in put_out(twoway, refused) for symbol in part)
        self.assertEqual(state_after(acceptor, output), 199)


if __name__ == "__main__":
    unittest.main()
