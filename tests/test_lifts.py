import unittest

from nearby.balls import view_of
from nearby.building import grid, path, renamed, ring, star, turned
from nearby.errors import InvalidLift, InvalidNetwork
from nearby.lifts import is_lift, lift, stable_depth, view_classes
from nearby.matching import NamelessCover
from nearby.network import Network, bounds_of, distances
from nearby.running import run
from tests.helpers import Mixed, changed, complete, crooked_grid, many, samples, scattered


def copies(network, sheets):
    """The node of the network for each node of its lift."""
    return [node // sheets for node in range(network.size() * sheets)]


def any_lift(network, sheets, seed=3):
    shifts = [(seed * at * at + 5 * at + seed) % 11 - 4 for at in range(len(network.links()))]
    count = network.size() * sheets
    return lift(network, sheets, shifts, [7 * (count - node) % (7 * count + 1) for node in range(count)])


def rows_of(network):
    return [network.neighbors(node) for node in range(network.size())]


class LiftTest(unittest.TestCase):
    def test_names_and_neighbors_by_ports(self):
        network = Network([5, 1, 8], [[2, 1], [0, 2], [1, 0]])
        self.assertEqual(network.links(), [(0, 1), (0, 2), (1, 2)])
        lifted = lift(network, 3, [1, 0, 2], [10, 11, 12, 20, 21, 22, 30, 31, 32])
        self.assertEqual(lifted.names(), [10, 11, 12, 20, 21, 22, 30, 31, 32])
        self.assertEqual(rows_of(lifted), [
            # The node 0 on the sheet i is a neighbor of 2 on i, and of 1 on i + 1.
            [6, 4], [7, 5], [8, 3],
            # The node 1 on the sheet j is a neighbor of 0 on j - 1, and of 2 on j + 2.
            [2, 8], [0, 6], [1, 7],
            [4, 0], [5, 1], [3, 2],
        ])

    def test_against_the_words(self):
        for network in samples():
            for sheets in [1, 2, 3, 5]:
                count = network.size() * sheets
                links = network.links()
                shifts = [[0, 1, -1, 7, -9, sheets, 100, -sheets][at % 8] for at in range(len(links))]
                names = [3 * (node * 11 % count if count % 11 else node) + 2 for node in range(count)]
                lifted = lift(network, sheets, shifts, names)
                self.assertEqual(lifted.names(), names)
                self.assertEqual(len(lifted.links()), sheets * len(links))
                for (u, v), shift in zip(links, shifts):
                    p, q = network.neighbors(u).index(v), network.neighbors(v).index(u)
                    for i in range(sheets):
                        j = (i + shift) % sheets
                        self.assertEqual(lifted.neighbors(u * sheets + i)[p], v * sheets + j)
                        self.assertEqual(lifted.neighbors(v * sheets + j)[q], u * sheets + i)

    def test_one_sheet_is_the_network(self):
        for network in samples():
            names = [name + 9 for name in network.names()]
            lifted = lift(network, 1, [at - 2 for at in range(len(network.links()))], names)
            self.assertEqual((rows_of(lifted), lifted.names()), (rows_of(network), names))

    def test_a_ring_of_two_sheets(self):
        self.assertNotIn(None, distances(lift(ring(5), 2, [1, 0, 0, 0, 0], list(range(10))), 0))
        self.assertIn(None, distances(lift(ring(5), 2, [2, 0, 0, 4, 0], list(range(10))), 0))
        self.assertIn(None, distances(lift(ring(5), 2, [1, 0, -1, 0, 0], list(range(10))), 0))

    def test_a_node_alone(self):
        lifted = lift(path(1), 3, [], [4, 0, 9])
        self.assertEqual((rows_of(lifted), lifted.names()), ([[], [], []], [4, 0, 9]))

    def test_invalid_lifts(self):
        for sheets, shifts, names in [
            (0, [0, 0], []), (-1, [0, 0], [1, 2, 3]), (0, [], []), (0, [0, 0], [1, 1, 1]),
            (1, [0], [1, 2, 3]), (1, [0, 0, 0], [1, 2, 3]), (1, [], [1, 2, 3]),
            (1, [0, 0], [1, 2]), (1, [0, 0], [1, 2, 3, 4]), (2, [0, 0], [1, 2, 3]), (1, [0, 0], []),
            # With a wrong length the names are not looked at.
            (1, [0, 0], [1, 1]), (1, [0], [-1, -1, 3]), (2, [0, 0], [-1]),
        ]:
            with self.assertRaises(InvalidLift):
                lift(path(3), sheets, shifts, names)

    def test_invalid_names(self):
        for names in [[1, 2, 3, 4, 5, 1], [1, 2, 3, 4, 5, -1], [0, 0, 0, 0, 0, 0]]:
            with self.assertRaises(InvalidNetwork):
                lift(path(3), 2, [0, 1], names)

    def test_nothing_is_modified_or_kept(self):
        shifts, names = [1, 0], [0, 1, 2, 3, 4, 5]
        network = path(3)
        lifted = lift(network, 2, shifts, names)
        self.assertEqual((shifts, names), ([1, 0], [0, 1, 2, 3, 4, 5]))
        shifts.clear()
        names.clear()
        self.assertEqual(lifted.names(), [0, 1, 2, 3, 4, 5])
        self.assertEqual(rows_of(network), [[1], [0, 2], [1]])


class IsLiftTest(unittest.TestCase):
    def test_lifts(self):
        for network in samples():
            for sheets in [1, 2, 4]:
                self.assertIs(is_lift(any_lift(network, sheets), network, copies(network, sheets)), True)

    def test_one_node_changed(self):
        for network in [path(4), star(4), scattered(), crooked_grid()]:
            lifted, copied = any_lift(network, 2), copies(network, 2)
            for node in range(lifted.size()):
                if lifted.degree(node) > 0:
                    for other in range(network.size()):
                        if other != copied[node]:
                            self.assertIs(is_lift(lifted, network, changed(copied, node, other)), False)

    def test_other_lengths_and_numbers_that_are_no_nodes(self):
        for network in samples():
            lifted, copied = any_lift(network, 2), copies(network, 2)
            for row in [copied[:-1], copied + [0], []]:
                self.assertIs(is_lift(lifted, network, row), False)
            for node in range(lifted.size()):
                for other in [-1, network.size(), -network.size(), copied[node] - network.size()]:
                    self.assertIs(is_lift(lifted, network, changed(copied, node, other)), False)

    def test_degrees_ports_and_far_ports(self):
        self.assertIs(is_lift(path(2), path(1), [0, 0]), False)
        self.assertIs(is_lift(path(1), path(2), [0]), False)
        self.assertIs(is_lift(path(3), ring(3), [0, 1, 2]), False)
        self.assertIs(is_lift(ring(6), ring(3), [0, 1, 2, 0, 1, 2]), True)
        self.assertIs(is_lift(ring(6), ring(3), [0, 2, 1, 0, 2, 1]), False)
        self.assertIs(is_lift(ring(5), ring(3), [0, 1, 2, 0, 1]), False)
        # The neighbors are right, but the ports of a node are turned.
        turns = [[1, 0], [0, 1], [0, 1]]
        self.assertIs(is_lift(turned(ring(3), turns), ring(3), [0, 1, 2]), False)
        self.assertIs(is_lift(turned(ring(3), turns), turned(ring(3), turns), [0, 1, 2]), True)
        one_way = Network([0, 1], [[1], [0]])
        self.assertIs(is_lift(one_way, one_way, [0, 1]), True)
        self.assertIs(is_lift(one_way, one_way, [1, 0]), True)
        self.assertIs(is_lift(one_way, one_way, [0, 0]), False)

    def test_one_node_turned(self):
        square = Network([0, 1, 2, 3], [[1, 3], [0, 2], [1, 3], [2, 0]])
        for node in range(4):
            row = rows_of(square)
            row[node] = row[node][::-1]
            other = Network([0, 1, 2, 3], row)
            self.assertIs(is_lift(other, square, [0, 1, 2, 3]), False)
            self.assertIs(is_lift(other, square, [0, 1, 0, 1]), False)

    def test_nothing_is_modified(self):
        copied = [0, 1, 2, 0, 1, 2]
        is_lift(ring(6), ring(3), copied)
        self.assertEqual(copied, [0, 1, 2, 0, 1, 2])


class ClassesTest(unittest.TestCase):
    def check(self, network, depth):
        views = [view_of(network, node, depth) for node in range(network.size())]
        firsts = []
        for view in views:
            if view not in firsts:
                firsts.append(view)
        self.assertEqual(view_classes(network, depth), [firsts.index(view) for view in views])

    def test_against_views(self):
        for network in many() + [any_lift(path(4), 2), any_lift(ring(4), 3), any_lift(scattered(), 2)]:
            for depth in range(5):
                self.check(network, depth)

    def test_rings(self):
        for network in [ring(3), ring(8), renamed(ring(5), [9, 3, 1, 0, 4])]:
            for depth in [0, 1, 2, 30]:
                self.assertEqual(view_classes(network, depth), [0] * network.size())
            self.assertEqual(stable_depth(network), 0)
        # One turned node tells all nodes apart in the end.
        network = turned(ring(7), [[1, 0]] + [[0, 1]] * 6)
        self.assertEqual(view_classes(network, 0), [0] * 7)
        self.assertEqual(view_classes(network, 1), [0, 1, 2, 2, 2, 2, 3])
        self.assertEqual(view_classes(network, 9), [0, 1, 2, 3, 4, 5, 6])

    def test_the_order_of_the_integers(self):
        self.assertEqual(view_classes(star(4), 0), [0, 1, 1, 1])
        self.assertEqual(view_classes(path(5), 0), [0, 1, 1, 1, 0])
        self.assertEqual(view_classes(path(5), 1), [0, 1, 2, 3, 4])
        self.assertEqual(view_classes(Network([1, 2, 3], [[], [2], [1]]), 4), [0, 1, 1])

    def test_classes_on_lifts(self):
        for network in samples():
            for sheets in [1, 2, 3]:
                for depth in [0, 1, 2, 4]:
                    expected = [number for number in view_classes(network, depth) for _ in range(sheets)]
                    self.assertEqual(view_classes(any_lift(network, sheets), depth), expected)

    def test_equal_views_on_lifts(self):
        for network in samples():
            lifted = any_lift(network, 2)
            for node in range(lifted.size()):
                for depth in [0, 1, 3]:
                    self.assertEqual(view_of(lifted, node, depth), view_of(network, node // 2, depth))

    def test_nameless_algorithms_on_lifts(self):
        for network in samples():
            for sheets in [2, 3]:
                lifted = any_lift(network, sheets)
                bounds = (bounds_of(network)[0], bounds_of(lifted)[1])
                for algorithm in [NamelessCover(), Mixed(0), Mixed(3)]:
                    outputs = run(network, bounds, algorithm)
                    self.assertEqual(run(lifted, bounds, algorithm), [output for output in outputs for _ in range(sheets)])

    def test_stable_depth(self):
        self.assertEqual(stable_depth(path(1)), 0)
        self.assertEqual(stable_depth(path(2)), 0)
        self.assertEqual(stable_depth(complete(4)), self.stable_by_words(complete(4)))
        for network in many() + [path(9), grid(3, 4), any_lift(path(4), 2), turned(ring(9), [[1, 0]] + [[0, 1]] * 8)]:
            self.assertEqual(stable_depth(network), self.stable_by_words(network))
        self.assertEqual(stable_depth(path(9)), 3)

    def stable_by_words(self, network):
        """The least depth from which on the classes are those of a depth that is great enough."""
        last = view_classes(network, network.size() + 1)
        return min(depth for depth in range(network.size() + 2) if view_classes(network, depth) == last)

    def test_lists_are_new(self):
        network = path(3)
        view_classes(network, 1).clear()
        self.assertEqual(view_classes(network, 1), [0, 1, 2])


if __name__ == "__main__":
    unittest.main()
