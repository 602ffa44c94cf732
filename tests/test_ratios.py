"""The greatest share of a net: [205], [206] and excerptcheck/ratios.py in the interface."""

import math
import unittest
from fractions import Fraction

from excerptcheck.graphs import graph
from excerptcheck.nets import net_of
from excerptcheck.ratios import greatest_ratio
from netoracles import is_path, line, random_net, ratio_told, total
from samples import ALL, ANY, EVERY_SYMBOL, EVERYTHING, PIPELINE, dice_for, has_flags, is_plain, of, star, then

NET = (2, (0, 1), (0,), ((0, "Aa", 0), (0, "Aa", 1), (1, "Ba", 0), (1, "Ba", 1)))
NOTHING = (0, (), (), ())


class GreatestRatio(unittest.TestCase):
    def check(self, net, chosen, sizes):
        found = greatest_ratio(net, chosen, sizes)
        self.assertTrue(is_plain(found) and not has_flags(found))
        if found[0] != "none":
            self.assertEqual(math.gcd(found[1], found[2]), 1)
            self.assertTrue(0 <= found[1] <= found[2])
        if found[0] == "neared":
            self.check_parts(net, chosen, sizes, *found[3:])
            self.assertEqual(Fraction(total(found[4], chosen), total(found[4], sizes)), Fraction(*found[1:3]))
        return found

    def check_parts(self, net, chosen, sizes, head, loop, tail):
        point = net[3][loop[0]][0]
        self.assertTrue(any(is_path(net, head, start, point) for start in net[1]))
        self.assertTrue(is_path(net, loop, point, point))
        self.assertTrue(any(is_path(net, tail, point, end) for end in net[2]))
        self.assertTrue(all(len(part) <= net[0] for part in (head, loop, tail)))

    def test_the_examples_of_the_interface(self):
        self.assertEqual(net_of(graph(EVERYTHING, PIPELINE)), NET)
        self.assertEqual(self.check(NET, (0, 1, 0, 0), (0, 1, 1, 1)), ("met", 1, 2, ("Aa", "Ba")))
        found = self.check((2, (0,), (1,), ((0, "Ba", 1), (1, "Aa", 1))), (0, 1), (1, 1))
        self.assertEqual(found[:3], ("neared", 1, 1))

    def test_without_sizes(self):
        for net, sizes in ((NOTHING, ()), (NET, (0,) * 4), ((1, (0,), (0,), ()), ()), ((2, (0,), (1,), ()), ())):
            self.assertEqual(self.check(net, sizes, sizes), ("none",))

    def test_sizes_of_edges_that_lie_on_no_complete_path(self):
        net = (4, (0,), (1,), ((0, "Aa", 1), (0, "Aa", 3), (2, "Aa", 1), (3, "Aa", 3)))
        self.assertEqual(self.check(net, (0, 5, 7, 9), (0, 5, 7, 9)), ("none",))
        self.assertEqual(self.check(net, (1, 5, 7, 9), (3, 5, 7, 9)), ("met", 1, 3, ("Aa",)))

    def test_without_start_points_or_end_points(self):
        self.assertEqual(self.check((1, (), (0,), ((0, "Aa", 0),)), (1,), (1,)), ("none",))
        self.assertEqual(self.check((1, (0,), (), ((0, "Aa", 0),)), (1,), (1,)), ("none",))

    def test_a_share_of_0(self):
        # Some path has a size, so 0/1 is met, by the first path that has one.
        self.assertEqual(self.check(NET, (0,) * 4, (0, 1, 1, 1)), ("met", 0, 1, ("Ba",)))
        self.assertEqual(self.check(line(3), (0, 0), (0, 5)), ("met", 0, 1, ("Aa", "Aa")))
        loop = (1, (0,), (0,), ((0, "Aa", 0), (0, "Ba", 0)))
        self.assertEqual(self.check(loop, (0, 0), (0, 7)), ("met", 0, 1, ("Ba",)))

    def test_a_share_of_1(self):
        loop = (1, (0,), (0,), ((0, "Aa", 0), (0, "Ba", 0)))
        self.assertEqual(self.check(loop, (0, 7), (1, 7)), ("met", 1, 1, ("Ba",)))
        self.assertEqual(self.check(loop, (6, 6), (7, 7)), ("met", 6, 7, ("Aa",)))

    def test_lowest_terms(self):
        self.assertEqual(self.check(line(3), (2, 4), (4, 6)), ("met", 3, 5, ("Aa", "Aa")))
        self.assertEqual(self.check(line(3), (250, 250), (1000, 1000)), ("met", 1, 4, ("Aa", "Aa")))
        loop = (2, (0,), (1,), ((0, "Aa", 1), (1, "Aa", 1)))
        self.assertEqual(self.check(loop, (0, 600), (1, 900))[:3], ("neared", 2, 3))

    def test_met_by_a_path_that_goes_around_a_loop(self):
        # Head and tail have no size, so the share of the loop is met as soon as it is passed once.
        net = (3, (0,), (2,), ((0, "Aa", 1), (1, "Aa", 1), (1, "Ba", 2)))
        self.assertEqual(self.check(net, (0, 2, 0), (0, 3, 0)), ("met", 2, 3, ("Aa", "Aa", "Ba")))
        # The path without the loop has the same share.
        self.assertEqual(self.check(net, (0, 2, 4), (0, 3, 6)), ("met", 2, 3, ("Aa", "Ba")))
        # A head of a smaller share can only be made up for more and more.
        self.assertEqual(self.check(net, (0, 2, 0), (1, 3, 0)), ("neared", 2, 3, (0,), (1,), (2,)))
        # A head of a greater share, and no loop is passed.
        self.assertEqual(self.check(net, (1, 2, 0), (1, 3, 0)), ("met", 1, 1, ("Aa", "Ba")))

    def test_met_by_a_path_that_passes_points_twice(self):
        # Only the way back through all points has a size; the path to it reads every edge twice.
        net = (3, (0,), (2,), ((0, "Aa", 1), (1, "Aa", 2), (2, "Ba", 0)))
        self.assertEqual(self.check(net, (0, 0, 1), (0, 0, 2)), ("met", 1, 2, ("Aa", "Aa", "Ba", "Aa", "Aa")))

    def test_the_first_sequence_with_the_share(self):
        net = (4, (0,), (3,), ((0, "Aa", 1), (0, "Ba", 2), (0, "Zz", 3), (1, "Ba", 3), (2, "Aa", 3)))
        self.assertEqual(self.check(net, (1, 1, 1, 1, 1), (2, 2, 2, 2, 2)), ("met", 1, 2, ("Zz",)))
        self.assertEqual(self.check(net, (1, 1, 0, 1, 1), (2, 2, 2, 2, 2)), ("met", 1, 2, ("Aa", "Ba")))
        self.assertEqual(self.check(net, (1, 2, 0, 1, 1), (2, 2, 2, 2, 2)), ("met", 3, 4, ("Ba", "Aa")))
        # Paths without a size have no share.
        self.assertEqual(self.check(net, (1, 1, 0, 1, 1), (2, 2, 0, 2, 2)), ("met", 1, 2, ("Aa", "Ba")))

    def test_several_paths_that_read_the_same_sequence(self):
        net = (4, (0, 1), (2, 3), ((0, "Aa", 2), (0, "Aa", 3), (1, "Aa", 2), (1, "Ba", 3)))
        self.assertEqual(self.check(net, (1, 2, 0, 2), (3, 3, 0, 3)), ("met", 2, 3, ("Aa",)))

    def test_a_loop_with_a_smaller_share_than_a_path(self):
        net = (2, (0,), (1,), ((0, "Aa", 1), (0, "Ba", 0), (1, "Aa", 1)))
        self.assertEqual(self.check(net, (3, 2, 2), (4, 3, 3)), ("met", 3, 4, ("Aa",)))
        self.assertEqual(self.check(net, (3, 4, 2), (4, 5, 3))[:3], ("neared", 4, 5))

    def test_a_loop_of_many_points_is_better_than_its_parts(self):
        net = (4, (0,), (3,), ((0, "Aa", 1), (1, "Aa", 2), (1, "Ba", 1), (2, "Aa", 0), (2, "Ba", 3)))
        found = self.check(net, (9, 9, 1, 9, 0), (10, 10, 2, 10, 10))
        self.assertEqual(found[:3], ("neared", 9, 10))
        self.assertEqual(sorted(found[4]), [0, 1, 3])

    def test_edges_without_a_size_in_a_loop(self):
        net = (2, (0,), (1,), ((0, "Aa", 0), (0, "Ba", 1), (1, "Aa", 0), (1, "Ba", 1)))
        # A loop without a size is none that the share is neared by.
        found = self.check(net, (0, 0, 3, 0), (0, 1, 4, 0))
        self.assertEqual(found[:3], ("neared", 3, 5))
        self.assertEqual(sorted(set(found[4]) - {0, 3}), [1, 2])

    def test_the_greatest_sizes(self):
        self.assertEqual(self.check(line(200), (999,) * 199, (1000,) * 199), ("met", 999, 1000, ("Aa",) * 199))
        found = self.check(line(200), (1,) + (0,) * 198, (1000,) * 199)
        self.assertEqual(found, ("met", 1, 199000, ("Aa",) * 199))
        around = line(200)[:3] + (tuple(sorted(line(200)[3] + ((199, "Ba", 0),))),)
        found = self.check(around, (0,) * 199 + (1,), (1000,) * 199 + (999,))
        self.assertEqual(found[:3], ("neared", 1, 199999))
        self.assertEqual(len(found[4]), 200)

    def test_200_points_and_2000_edges(self):
        dice = dice_for("ratios of 2000 edges")
        for choose in (lambda size: dice.randint(0, size), lambda size: size, lambda size: 0,
                       lambda size: max(0, size - 1), lambda size: size // 2):
            edges = set()
            while len(edges) < 2000:
                edges.add((dice.randrange(200), dice.choice(EVERY_SYMBOL), dice.randrange(200)))
            sizes = tuple(dice.randint(0, 1000) for _ in edges)
            net = (200, (0, 7), (5, 199), tuple(sorted(edges)))
            found = self.check(net, tuple(choose(size) for size in sizes), sizes)
            self.assertIn(found[0], ("met", "neared"))
        around = (200, (0,), (199,), tuple((point, symbol, (point + 1) % 200) for point in range(200)
                                           for symbol in EVERY_SYMBOL[:10]))
        chosen = tuple(index % 10 for index in range(2000))
        self.assertEqual(self.check(around, chosen, (10,) * 2000), ("met", 9, 10, (EVERY_SYMBOL[9],) * 199))
        self.assertEqual(self.check(around, chosen[:-1] + (10,), (10,) * 2000)[:3], ("neared", 1801, 2000))

    def test_random_nets(self):
        dice = dice_for("ratios")
        forms = {}
        for _ in range(2500):
            net = random_net(dice, dice.randint(1, 4), dice.randint(0, 7), ("Aa", "Ba"))
            if dice.random() < 0.7:
                net = (net[0], (0,), (net[0] - 1,), net[3])
            most = dice.choice([1, 2, 3, 1000])
            sizes = tuple(dice.choice([0, dice.randint(0, most)]) for _ in net[3])
            chosen = tuple(dice.randint(0, size) for size in sizes)
            found = self.check(net, chosen, sizes)
            expected = ratio_told(net, chosen, sizes)
            self.assertEqual(found[:len(expected)], expected, (net, chosen, sizes))
            forms[found[0]] = forms.get(found[0], 0) + 1
        self.assertTrue(all(forms[form] > 20 for form in ("none", "met", "neared")), forms)

    def test_every_further_loop_comes_nearer(self):
        dice = dice_for("nearer and nearer")
        done = 0
        for _ in range(1000):
            count, _, _, edges = random_net(dice, dice.randint(1, 4), dice.randint(1, 7), ("Aa", "Ba"))
            net = (count, (0,), (count - 1,), edges)
            sizes = tuple(dice.randint(0, 3) for _ in net[3])
            chosen = tuple(dice.randint(0, size) for size in sizes)
            found = self.check(net, chosen, sizes)
            if found[0] == "neared":
                paths = [found[3] + found[4] * turns + found[5] for turns in range(1, 6)]
                shares = [Fraction(total(path, chosen), total(path, sizes)) for path in paths]
                self.assertEqual(shares, sorted(set(shares)))
                self.assertLess(shares[-1], Fraction(*found[1:3]))
                done += 1
        self.assertGreater(done, 20)

    def test_the_share_of_an_owner_in_excerpts(self):
        kind = ("a", "AB", then(of("B"), star(of("A"))))
        _, _, _, edges = found = graph(kind, ((((ALL, ANY, ALL, "$"),)),))
        sizes = tuple(len(edge[3]) for edge in edges)
        chosen = tuple(len([symbol for symbol in edge[3] if symbol[0] == "A"]) for edge in edges)
        self.assertEqual(self.check(net_of(found), chosen, sizes)[:3], ("neared", 1, 1))


if __name__ == "__main__":
    unittest.main()
