"""Nets, potentials, defects and greatest weights: [200] to [204], the order of [21], excerptcheck/nets.py."""

import unittest

from excerptcheck.graphs import graph, graph_of
from excerptcheck.nets import defect, first_above, greatest_weight, net_of, potentials, useful
from excerptcheck.twoway import identity
from netoracles import (defect_told, first_above_told, greatest_told, is_path, line, potentials_told, random_net,
                        read_along, total, useful_told)
from oracles import SEVERAL, chain, random_acceptor, random_machine
from samples import EVERY_SYMBOL, EVERYTHING, PIPELINE, NONE, dice_for, has_flags, is_plain

# The net of the interface's examples.
NET = (2, (0, 1), (0,), ((0, "Aa", 0), (0, "Aa", 1), (1, "Ba", 0), (1, "Ba", 1)))
MILLION = 1000000
NOTHING = (0, (), (), ())
LARGE = (200, (0,), (199,), tuple((point, symbol, (point + 1) % 200) for point in range(200)
                                  for symbol in EVERY_SYMBOL[:10]))


def random_nets(name, times, points=5, edges=7):
    dice = dice_for(name)
    for _ in range(times):
        net = random_net(dice, dice.randint(0, points), dice.randint(0, edges))
        low, high = dice.choice([(-1, 1), (-2, 0), (-5, 2), (-MILLION, MILLION), (0, 0)])
        yield dice, net, tuple(dice.randint(low, high) for _ in net[3])


class NetOf(unittest.TestCase):
    def test_the_example_of_the_interface(self):
        self.assertEqual(net_of(graph(EVERYTHING, PIPELINE)), NET)

    def test_a_graph_without_points(self):
        self.assertEqual(net_of(graph(("a", "AB", NONE), PIPELINE)), NOTHING)

    def test_the_edges_of_the_graph_without_their_outputs(self):
        dice = dice_for("nets of graphs")
        for _ in range(60):
            found = graph_of(random_acceptor(dice, ("@a", "Ab"), 3), random_machine(dice, ("@a", "Ab"), 2, 2))
            net = net_of(found)
            self.assertEqual(net, (len(found[0]), found[1], found[2], tuple(edge[:3] for edge in found[3])))
            self.assertTrue(is_plain(net))

    def test_all_points_of_a_graph_are_useful(self):
        dice = dice_for("useful points of graphs")
        for _ in range(60):
            net = net_of(graph_of(random_acceptor(dice, ("@a", "Ab"), 4, 0.3), random_machine(dice, ("@a", "Ab"), 2, 2)))
            self.assertEqual(useful(net), tuple(range(net[0])))

    def test_200_points_and_2000_edges(self):
        ten = SEVERAL[:10]
        rows = tuple(tuple((state + 1 + index) % 200 for index in range(10)) for state in range(200))
        net = net_of(graph_of((ten, rows, (199,)), identity(ten)))
        self.assertEqual((net[0], len(net[3])), (200, 2000))
        self.assertEqual(useful(net), tuple(range(200)))


class Useful(unittest.TestCase):
    def test_points_that_are_not_useful(self):
        # Points 1 and 2 lie on the complete path, 3 leads to no end point, 4 is not reached, 5 stands alone.
        net = (6, (1,), (2,), ((1, "Aa", 2), (1, "Ba", 3), (4, "Aa", 2)))
        self.assertEqual(useful(net), (1, 2))
        self.assertEqual(useful((3, (0,), (1,), ((0, "Aa", 0), (0, "Aa", 2), (1, "Aa", 1), (2, "Aa", 2)))), ())

    def test_the_empty_path(self):
        self.assertEqual(useful((3, (0, 1), (1, 2), ())), (1,))
        self.assertEqual(useful((1, (0,), (0,), ())), (0,))

    def test_without_start_points_end_points_or_edges(self):
        edges = ((0, "Aa", 1), (1, "Aa", 0))
        self.assertEqual(useful((2, (), (0, 1), edges)), ())
        self.assertEqual(useful((2, (0, 1), (), edges)), ())
        self.assertEqual(useful((2, (), (), ())), ())
        self.assertEqual(useful(NOTHING), ())
        self.assertEqual(useful((2, (0,), (1,), ())), ())

    def test_loops_and_edges_side_by_side(self):
        net = (3, (0,), (2,), ((0, "@a", 0), (0, "Aa", 1), (0, "Ba", 1), (1, "Aa", 1), (1, "Aa", 2)))
        self.assertEqual(useful(net), (0, 1, 2))

    def test_200_points(self):
        self.assertEqual(useful(line(200)), tuple(range(200)))
        self.assertEqual(useful(LARGE), tuple(range(200)))
        self.assertEqual(useful(LARGE[:2] + ((),) + LARGE[3:]), ())

    def test_random_nets(self):
        for _, net, _ in random_nets("useful points", 300):
            self.assertEqual(useful(net), useful_told(net), net)


class Potentials(unittest.TestCase):
    def test_the_example_of_the_interface(self):
        self.assertEqual(potentials(NET, (0, 1, -1, -1)), (0, -1))

    def test_none_for_some_points(self):
        net = (4, (0,), (1, 3), ((0, "Aa", 1), (1, "Aa", 2), (2, "Aa", 2)))
        self.assertEqual(potentials(net, (5, 7, -1)), (5, 0, None, 0))

    def test_none_for_all_points(self):
        self.assertEqual(potentials((2, (0,), (), ((0, "Aa", 1),)), (3,)), (None, None))
        self.assertEqual(potentials(NOTHING, ()), ())

    def test_an_end_point_from_which_another_one_is_better(self):
        net = (3, (0,), (0, 1, 2), ((0, "Aa", 1), (1, "Aa", 2)))
        self.assertEqual(potentials(net, (3, 4)), (7, 4, 0))
        self.assertEqual(potentials(net, (3, -4)), (3, 0, 0))
        self.assertEqual(potentials(net, (-3, -4)), (0, 0, 0))

    def test_points_that_no_start_point_reaches(self):
        self.assertEqual(potentials((3, (0,), (2,), ((1, "Aa", 2),)), (9,)), (None, 9, 0))

    def test_the_greatest_of_several_paths(self):
        net = (4, (0,), (3,), ((0, "Aa", 1), (0, "Aa", 2), (0, "Ab", 2), (1, "Aa", 3), (2, "Aa", 3), (2, "Ba", 3)))
        self.assertEqual(potentials(net, (1, 2, 3, 4, -5, -3)), (5, 4, -3, 0))

    def test_a_cycle_with_a_positive_weight(self):
        around = ((0, "Aa", 1), (1, "Aa", 2), (2, "Aa", 0), (2, "Ba", 3))
        # The end point can be reached from the cycle, also if no start point leads to it.
        for starts in ((0,), (3,), ()):
            self.assertIsNone(potentials((4, starts, (3,), around), (-5, 3, 3, -MILLION)))
        self.assertEqual(potentials((4, (0,), (3,), around), (-5, 3, 2, -7)), (-9, -4, -7, 0))
        self.assertIsNone(potentials((1, (), (0,), ((0, "Aa", 0),)), (1,)))

    def test_a_cycle_with_a_positive_weight_from_which_no_end_point_can_be_reached(self):
        net = (4, (0,), (1,), ((0, "Aa", 1), (0, "Aa", 2), (2, "Aa", 3), (3, "Aa", 2), (3, "Ba", 3)))
        self.assertEqual(potentials(net, (5, MILLION, MILLION, MILLION, MILLION)), (5, 0, None, None))

    def test_cycles_without_a_weight(self):
        net = (3, (0,), (2,), ((0, "Aa", 1), (1, "Aa", 0), (1, "Ba", 2), (2, "Aa", 2)))
        self.assertEqual(potentials(net, (4, -4, 1, 0)), (5, 1, 0))
        self.assertIsNone(potentials(net, (4, -3, 1, 0)))
        self.assertIsNone(potentials(net, (4, -4, 1, 1)))
        self.assertEqual(potentials(net, (4, -5, 1, -1)), (5, 1, 0))

    def test_edges_between_the_same_two_points(self):
        net = (2, (0,), (1,), ((0, "@a", 1), (0, "Aa", 1), (0, "Ba", 1), (1, "Aa", 0)))
        self.assertEqual(potentials(net, (1, 3, 2, -3)), (3, 0))
        self.assertIsNone(potentials(net, (1, 3, 2, -2)))

    def test_long_paths_of_great_weights(self):
        self.assertEqual(potentials(line(200), (MILLION,) * 199), tuple(MILLION * many for many in range(199, -1, -1)))
        self.assertEqual(potentials(line(200), (-MILLION,) * 199), tuple(-MILLION * many for many in range(199, -1, -1)))

    def test_200_points_and_2000_edges(self):
        # Around the net every weight is gained and lost; from each point the best of ten edges leads on.
        weights = tuple((index * 7) % 10 - 9 for index in range(2000))
        best = [max(weights[10 * point:10 * point + 10]) for point in range(200)]
        self.assertEqual(potentials(LARGE, weights), tuple(sum(best[point:199]) for point in range(200)))
        self.assertIsNone(potentials(LARGE, weights[:-1] + (MILLION,)))
        # A cycle through all points whose weight is 1.
        turn = (-1,) * 1990 + (199,) + (-1,) * 9
        self.assertEqual(potentials(LARGE, turn), tuple(-many for many in range(199, -1, -1)))
        self.assertIsNone(potentials(LARGE, turn[:-1] + (200,)))

    def test_random_nets(self):
        met = 0
        for _, net, weights in random_nets("potentials", 400):
            found = potentials(net, weights)
            self.assertEqual(found, potentials_told(net, weights), (net, weights))
            self.assertTrue(is_plain(found) and not has_flags(found))
            met += found is None
        self.assertGreater(met, 30)

    def test_potentials_are_valid(self):
        for _, net, weights in random_nets("valid potentials", 200):
            found = potentials(net, weights)
            if found is not None and None not in found:
                greatest = max((found[start] for start in net[1]), default=0)
                self.assertIsNone(defect(net, weights, greatest, found))
                if net[1]:
                    self.assertEqual(defect(net, weights, greatest - 1, found)[0], "start")


class Defect(unittest.TestCase):
    def test_the_example_of_the_interface(self):
        self.assertEqual(defect(NET, (0, 1, -1, -1), 0, (0, 0)), ("edge", 1))
        self.assertIsNone(defect(NET, (0, 1, -1, -1), 0, (0, -1)))

    def test_each_form_alone(self):
        net = (3, (0, 1), (1, 2), ((0, "Aa", 1), (1, "Aa", 2)))
        self.assertIsNone(defect(net, (-1, -2), 5, (5, 5, 7)))
        self.assertEqual(defect(net, (-2, -2), 5, (6, 5, 7)), ("start", 0))
        self.assertEqual(defect(net, (-2, -2), 5, (5, 6, 7)), ("start", 1))
        self.assertEqual(defect(net, (-2, -2), 5, (5, -1, 0)), ("end", 1))
        self.assertEqual(defect(net, (-2, -2), 5, (5, 0, -1)), ("end", 2))
        self.assertEqual(defect(net, (1, -2), 5, (5, 5, 7)), ("edge", 0))
        self.assertEqual(defect(net, (0, -1), 5, (5, 5, 7)), ("edge", 1))

    def test_conditions_that_just_hold(self):
        net = (2, (0,), (1,), ((0, "Aa", 1),))
        self.assertIsNone(defect(net, (3,), 3, (3, 0)))
        self.assertEqual(defect(net, (3,), 2, (3, 0)), ("start", 0))
        self.assertEqual(defect(net, (3,), 3, (3, -1)), ("end", 1))
        self.assertEqual(defect(net, (4,), 3, (3, 0)), ("edge", 0))

    def test_the_first_of_several(self):
        net = (4, (1, 2), (0, 3), ((0, "Aa", 1), (0, "Ab", 1), (3, "Aa", 2)))
        # All of them are wrong at first; then one after another is put right.
        self.assertEqual(defect(net, (9, 9, 9), 0, (-1, 1, 1, -1)), ("start", 1))
        self.assertEqual(defect(net, (9, 9, 9), 0, (-1, 0, 1, -1)), ("start", 2))
        self.assertEqual(defect(net, (9, 9, 9), 0, (-1, 0, 0, -1)), ("end", 0))
        self.assertEqual(defect(net, (9, 9, 9), 0, (0, 0, 0, -1)), ("end", 3))
        self.assertEqual(defect(net, (9, 9, 9), 0, (0, 0, 0, 0)), ("edge", 0))
        self.assertEqual(defect(net, (0, 9, 9), 0, (0, 0, 0, 0)), ("edge", 1))
        self.assertEqual(defect(net, (0, 0, 9), 0, (0, 0, 0, 0)), ("edge", 2))
        self.assertIsNone(defect(net, (0, 0, 0), 0, (0, 0, 0, 0)))

    def test_points_that_are_start_and_end_point(self):
        self.assertEqual(defect((1, (0,), (0,), ()), (), -1, (-1,)), ("end", 0))
        self.assertEqual(defect((1, (0,), (0,), ()), (), -1, (0,)), ("start", 0))
        self.assertIsNone(defect((1, (0,), (0,), ()), (), 0, (0,)))

    def test_points_that_lie_on_no_complete_path_count_as_well(self):
        net = (3, (0,), (0,), ((1, "Aa", 2),))
        self.assertEqual(defect(net, (1,), 0, (0, 0, 0)), ("edge", 0))
        self.assertIsNone(defect(net, (1,), 0, (0, 1, 0)))

    def test_loops(self):
        net = (1, (0,), (0,), ((0, "Aa", 0), (0, "Ba", 0)))
        self.assertIsNone(defect(net, (0, -5), 0, (0,)))
        self.assertEqual(defect(net, (0, 1), 0, (0,)), ("edge", 1))

    def test_nothing_to_check(self):
        self.assertIsNone(defect(NOTHING, (), -1, ()))
        self.assertIsNone(defect((2, (), (), ()), (), -10 ** 9, (10 ** 9, -10 ** 9)))

    def test_great_numbers(self):
        net = (2, (0,), (1,), ((0, "Aa", 1),))
        for bound in (-10 ** 9, 10 ** 9):
            self.assertEqual(defect(net, (MILLION,), bound, (bound, 0)), None if bound > 0 else ("edge", 0))
        self.assertEqual(defect(net, (MILLION,), -10 ** 9, (10 ** 9, 0)), ("start", 0))
        self.assertEqual(defect(net, (MILLION,), 10 ** 9, (0, -10 ** 9)), ("end", 1))
        self.assertEqual(defect(net, (MILLION,), 10 ** 9, (10 ** 9, 10 ** 9)), ("edge", 0))
        self.assertIsNone(defect(net, (-MILLION,), 10 ** 9, (10 ** 9, 10 ** 9)))

    def test_200_points_and_2000_edges(self):
        self.assertIsNone(defect(LARGE, (0,) * 2000, 0, (0,) * 200))
        self.assertEqual(defect(LARGE, (0,) * 1999 + (1,), 0, (0,) * 200), ("edge", 1999))

    def test_random_nets(self):
        for dice, net, weights in random_nets("defects", 400):
            integers = tuple(dice.randint(-1, 2) for _ in range(net[0]))
            bound = dice.choice([0, 1, 2])
            self.assertEqual(defect(net, weights, bound, integers), defect_told(net, weights, bound, integers))


class FirstAbove(unittest.TestCase):
    def test_the_example_of_the_interface(self):
        self.assertEqual(first_above(NET, (0, 2, -1, -1), 0, most=60), ("Aa", "Ba"))

    def test_the_empty_path(self):
        self.assertEqual(first_above(NET, (0, 2, -1, -1), -1, most=0), ())
        self.assertIsNone(first_above(NET, (0, 2, -1, -1), 0, most=0))
        self.assertIsNone(first_above((2, (0,), (1,), ((0, "Aa", 1),)), (5,), -10 ** 9, most=0))
        self.assertEqual(first_above((2, (0,), (1,), ((0, "Aa", 1),)), (5,), -10 ** 9, most=1), ("Aa",))

    def test_a_bound_that_is_just_met(self):
        net = (2, (0,), (1,), ((0, "Aa", 1), (0, "Ba", 1)))
        self.assertIsNone(first_above(net, (3, 4), 4, most=60))
        self.assertEqual(first_above(net, (3, 4), 3, most=60), ("Ba",))
        self.assertEqual(first_above(net, (3, 4), 2, most=60), ("Aa",))

    def test_a_shorter_sequence_comes_first_and_then_the_lesser_symbol(self):
        net = (4, (0,), (3,), ((0, "Aa", 1), (0, "Ba", 2), (0, "Zz", 3), (1, "Ba", 3), (2, "Aa", 3)))
        self.assertEqual(first_above(net, (1, 1, 1, 1, 1), 0, most=60), ("Zz",))
        self.assertEqual(first_above(net, (1, 1, 1, 1, 1), 1, most=60), ("Aa", "Ba"))
        self.assertEqual(first_above(net, (1, 2, 1, 1, 1), 2, most=60), ("Ba", "Aa"))
        self.assertIsNone(first_above(net, (1, 2, 1, 1, 1), 3, most=60))

    def test_several_paths_that_read_the_same_sequence(self):
        # The best of them decides, and it may go another way than the best beginning.
        net = (4, (0,), (3,), ((0, "Aa", 1), (0, "Aa", 2), (1, "Ba", 3), (2, "Ba", 3), (2, "Ca", 3)))
        self.assertEqual(first_above(net, (9, 0, 0, 5, 9), 8, most=60), ("Aa", "Ba"))
        self.assertEqual(first_above(net, (3, 0, 0, 5, 9), 4, most=60), ("Aa", "Ba"))
        self.assertEqual(first_above(net, (3, 0, 0, 5, 9), 5, most=60), ("Aa", "Ca"))

    def test_several_start_points(self):
        net = (4, (0, 1), (2, 3), ((0, "Ba", 2), (1, "Aa", 3), (1, "Ba", 3)))
        self.assertEqual(first_above(net, (7, 1, 2), 0, most=60), ("Aa",))
        self.assertEqual(first_above(net, (7, 1, 2), 2, most=60), ("Ba",))

    def test_most_60(self):
        loop = (1, (0,), (0,), ((0, "Aa", 0),))
        self.assertEqual(first_above(loop, (1,), 59, most=60), ("Aa",) * 60)
        self.assertIsNone(first_above(loop, (1,), 60, most=60))
        self.assertIsNone(first_above(loop, (1,), 59, most=59))
        self.assertEqual(first_above(loop, (MILLION,), 59 * MILLION, most=60), ("Aa",) * 60)
        self.assertIsNone(first_above(loop, (MILLION,), 10 ** 9, most=60))
        self.assertEqual(first_above(line(61), (1,) * 60, 59, most=60), ("Aa",) * 60)
        self.assertIsNone(first_above(line(62), (1,) * 61, -1, most=60))

    def test_60_symbols_of_which_the_first_ones_cost_something(self):
        # Only behind a head that costs 50, each symbol brings 1; the lesser symbol leads elsewhere.
        net = (3, (0,), (1,), ((0, "Aa", 2), (0, "Ba", 1), (1, "Aa", 1), (1, "Ab", 1), (2, "Aa", 1)))
        found = first_above(net, (-60, -50, 0, 1, 0), 8, most=60)
        self.assertEqual(found, ("Ba",) + ("Ab",) * 59)
        self.assertIsNone(first_above(net, (-60, -50, 0, 1, 0), 9, most=60))

    def test_nets_without_complete_paths(self):
        for net in (NOTHING, (2, (0,), (1,), ()), (1, (), (0,), ((0, "Aa", 0),)), (1, (0,), (), ((0, "Aa", 0),))):
            self.assertIsNone(first_above(net, (MILLION,) * len(net[3]), -10 ** 9, most=60))

    def test_200_points_and_2000_edges(self):
        near = LARGE[:2] + ((59,),) + LARGE[3:]
        weights = tuple(index % 10 for index in range(2000))
        self.assertEqual(first_above(near, weights, 59 * 9 - 1, most=60), (EVERY_SYMBOL[9],) * 59)
        self.assertEqual(first_above(near, weights, 59 * 9 - 10, most=60), EVERY_SYMBOL[:1] + (EVERY_SYMBOL[9],) * 58)
        self.assertIsNone(first_above(near, weights, 59 * 9, most=60))

    def test_random_nets(self):
        for dice, net, weights in random_nets("first above", 300, 4, 6):
            for bound in (-1, 0, 1, 2, 5):
                most = dice.randint(0, 6)
                self.assertEqual(first_above(net, weights, bound, most=most),
                                 first_above_told(net, weights, bound, most), (net, weights, bound, most))


class GreatestWeight(unittest.TestCase):
    def check(self, net, weights):
        found = greatest_weight(net, weights)
        self.assertTrue(is_plain(found) and not has_flags(found))
        if found is not None and found[0] == "unbounded":
            self.check_parts(net, weights, *found[1:])
        return found

    def check_parts(self, net, weights, head, loop, tail):
        point = net[3][loop[0]][0]
        self.assertTrue(any(is_path(net, head, start, point) for start in net[1]), (net, head, loop))
        self.assertTrue(is_path(net, loop, point, point))
        self.assertTrue(any(is_path(net, tail, point, end) for end in net[2]))
        self.assertGreater(total(loop, weights), 0)
        self.assertTrue(all(len(part) <= net[0] for part in (head, loop, tail)))

    def test_the_examples_of_the_interface(self):
        self.assertEqual(self.check(NET, (0, 1, -1, -2)), ("bounded", 0, ()))
        self.assertEqual(self.check(NET, (0, 5, -1, -1))[0], "unbounded")

    def test_no_complete_path(self):
        for net in (NOTHING, (2, (0,), (1,), ()), (1, (), (0,), ((0, "Aa", 0),)), (1, (0,), (), ((0, "Aa", 0),)),
                    (2, (0,), (1,), ((0, "Aa", 0), (1, "Aa", 1)))):
            self.assertIsNone(greatest_weight(net, (MILLION,) * len(net[3])))

    def test_the_first_sequence_with_the_greatest_weight(self):
        net = (4, (0,), (3,), ((0, "Aa", 1), (0, "Ba", 2), (0, "Zz", 3), (1, "Ba", 3), (2, "Aa", 3)))
        self.assertEqual(self.check(net, (1, 1, 2, 1, 1)), ("bounded", 2, ("Zz",)))
        self.assertEqual(self.check(net, (1, 1, 1, 1, 1)), ("bounded", 2, ("Aa", "Ba")))
        self.assertEqual(self.check(net, (1, 2, 1, 1, 1)), ("bounded", 3, ("Ba", "Aa")))
        self.assertEqual(self.check(net, (-MILLION,) * 5), ("bounded", -MILLION, ("Zz",)))

    def test_a_path_that_goes_on_behind_an_end_point(self):
        net = (3, (0,), (0, 1, 2), ((0, "Aa", 1), (1, "Aa", 2)))
        self.assertEqual(self.check(net, (-3, 5)), ("bounded", 2, ("Aa", "Aa")))
        self.assertEqual(self.check(net, (-3, 3)), ("bounded", 0, ()))
        self.assertEqual(self.check(net, (3, -1)), ("bounded", 3, ("Aa",)))

    def test_several_start_points_and_several_paths_of_one_sequence(self):
        net = (4, (0, 1), (2, 3), ((0, "Ba", 2), (1, "Aa", 3), (1, "Ba", 2), (1, "Ba", 3)))
        self.assertEqual(self.check(net, (7, 1, 2, 2)), ("bounded", 7, ("Ba",)))
        self.assertEqual(self.check(net, (7, 7, 2, 8)), ("bounded", 8, ("Ba",)))
        self.assertEqual(self.check(net, (7, 7, 2, 2)), ("bounded", 7, ("Aa",)))

    def test_cycles_without_a_weight(self):
        net = (2, (0,), (1,), ((0, "Aa", 0), (0, "Ba", 1), (1, "Aa", 0)))
        self.assertEqual(self.check(net, (0, 2, -2)), ("bounded", 2, ("Ba",)))
        self.assertEqual(self.check(net, (0, 2, -1))[0], "unbounded")
        self.assertEqual(self.check(net, (1, -5, 2))[0], "unbounded")

    def test_cycles_that_lie_on_no_complete_path(self):
        # One cycle cannot be reached, the other one cannot be left.
        net = (4, (0,), (1,), ((0, "Aa", 1), (0, "Aa", 3), (2, "Aa", 1), (2, "Aa", 2), (3, "Aa", 3)))
        self.assertEqual(self.check(net, (5, 9, 9, MILLION, MILLION)), ("bounded", 5, ("Aa",)))
        self.assertIsNone(potentials(net, (5, 9, 9, MILLION, MILLION)))

    def test_a_loop_behind_a_long_head_and_before_a_long_tail(self):
        edges = line(200)[3]
        found = self.check((200, (0,), (199,), tuple(sorted(edges + ((100, "Ba", 100),)))), (-MILLION,) * 101
                           + (1,) + (-MILLION,) * 98)
        self.assertEqual(found[0], "unbounded")
        # The loop goes through all points.
        around = line(200)[:3] + (tuple(sorted(edges + ((199, "Ba", 0),))),)
        self.assertEqual(self.check(around, (-1,) * 199 + (200,))[0], "unbounded")
        self.assertEqual(self.check(around, (-1,) * 199 + (199,)), ("bounded", -199, ("Aa",) * 199))

    def test_long_paths_of_great_weights(self):
        self.assertEqual(self.check(line(200), (MILLION,) * 199), ("bounded", 199 * MILLION, ("Aa",) * 199))

    def test_200_points_and_2000_edges(self):
        weights = tuple(index % 10 - 9 for index in range(2000))
        self.assertEqual(self.check(LARGE, weights), ("bounded", 0, (EVERY_SYMBOL[9],) * 199))
        self.assertEqual(self.check(LARGE, weights[:-1] + (1,))[0], "unbounded")
        dice = dice_for("2000 edges")
        for low, high in ((-MILLION, MILLION), (-MILLION, 0), (-1, 0), (0, 0)):
            edges = set()
            while len(edges) < 2000:
                edges.add((dice.randrange(200), dice.choice(EVERY_SYMBOL), dice.randrange(200)))
            net = (200, (0, 7), (5, 199), tuple(sorted(edges)))
            found = self.check(net, tuple(dice.randint(low, high) for _ in edges))
            self.assertEqual(found[0], "unbounded" if high > 0 else "bounded")

    def test_random_nets(self):
        forms = {}
        for _, net, weights in random_nets("greatest weights", 1500):
            found = self.check(net, weights)
            expected = greatest_told(net, weights)
            if expected == "unbounded":
                self.assertEqual(found[0], "unbounded", (net, weights))
            else:
                self.assertEqual(found, expected, (net, weights))
            forms[found and found[0]] = forms.get(found and found[0], 0) + 1
        self.assertTrue(all(forms[form] > 30 for form in (None, "bounded", "unbounded")), forms)

    def test_nets_of_graphs(self):
        dice = dice_for("greatest weights of graphs")
        for _ in range(100):
            acceptor = random_acceptor(dice, ("@a", "Ab"), dice.randint(1, 3))
            net = net_of(graph_of(acceptor, random_machine(dice, ("@a", "Ab"), dice.randint(1, 2), 1)))
            weights = tuple(dice.randint(-2, 1) for _ in net[3])
            found, expected = self.check(net, weights), greatest_told(net, weights)
            self.assertEqual(found[0] if expected == "unbounded" else found, expected)
        straight = (("Aa",), chain(("Aa",), 200), (198,))
        net = net_of(graph_of(straight, identity(("Aa",))))
        self.assertEqual(greatest_weight(net, (1,) * 198), ("bounded", 198, ("Aa",) * 198))

    def test_what_is_told_fits_together(self):
        for _, net, weights in random_nets("fitting together", 200):
            found = greatest_weight(net, weights)
            if found is not None and found[0] == "bounded":
                self.assertEqual(first_above(net, weights, found[1] - 1, most=60), found[2])
                self.assertIsNone(first_above(net, weights, found[1], most=60))
            if found is not None and found[0] == "unbounded":
                _, head, loop, tail = found
                self.assertIsNone(potentials(net, weights))
                for turns in (0, 1, 3):
                    path = head + loop * turns + tail
                    above = first_above(net, weights, total(path, weights) - 1, most=60)
                    told = read_along(net, path)
                    self.assertLessEqual((len(above), above), (len(told), told))


if __name__ == "__main__":
    unittest.main()
