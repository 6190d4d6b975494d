import unittest

from nearby.building import grid, path, renamed, ring, star
from nearby.errors import InvalidNetwork
from nearby.network import Network, bounds_of, distances, suits
from tests.helpers import complete, crooked_grid, samples, scattered


class NetworkTest(unittest.TestCase):
    def test_methods_with_names_and_ports_in_any_order(self):
        network = scattered()
        self.assertEqual(network.size(), 7)
        self.assertEqual(network.names(), [12, 5, 30, 0, 7, 21, 9])
        rows = [network.neighbors(node) for node in range(7)]
        self.assertEqual(rows, [[3, 1], [0, 3, 5], [], [5, 1, 0], [6], [1, 3], [4]])
        self.assertEqual([network.degree(node) for node in range(7)], [2, 3, 0, 3, 1, 2, 1])
        self.assertEqual(network.links(), [(0, 1), (0, 3), (1, 3), (1, 5), (3, 5), (4, 6)])

    def test_far_port(self):
        network = scattered()
        self.assertEqual(network.far_port(0, 0), 2)
        self.assertEqual(network.far_port(3, 2), 0)
        self.assertEqual(network.far_port(0, 1), 0)
        self.assertEqual(network.far_port(1, 2), 0)
        self.assertEqual(network.far_port(5, 1), 0)

    def test_far_port_leads_back_in_both_directions(self):
        for network in samples():
            for node in range(network.size()):
                for port, other in enumerate(network.neighbors(node)):
                    far = network.far_port(node, port)
                    self.assertEqual(network.neighbors(other)[far], node)
                    self.assertEqual(network.far_port(other, far), port)

    def test_one_node(self):
        network = Network([17], [[]])
        self.assertEqual((network.size(), network.names(), network.neighbors(0)), (1, [17], []))
        self.assertEqual((network.degree(0), network.links()), (0, []))

    def test_links_are_tuples_in_a_list_and_ascending(self):
        for network in samples():
            links = network.links()
            self.assertIs(type(links), list)
            self.assertEqual(links, sorted(set(links)))
            for node in range(network.size()):
                met = sorted(network.neighbors(node))
                self.assertEqual(met, sorted([u + v - node for u, v in links if node in (u, v)]))
            self.assertTrue(all(type(link) is tuple and link[0] < link[1] for link in links))

    def test_lists_handed_in_are_copied_and_not_modified(self):
        names, neighbors = [3, 8, 1], [[2, 1], [0], [0]]
        network = Network(names, neighbors)
        self.assertEqual((names, neighbors), ([3, 8, 1], [[2, 1], [0], [0]]))
        names[0] = 99
        neighbors[0].append(5)
        neighbors.append([])
        self.assertEqual(network.names(), [3, 8, 1])
        self.assertEqual([network.neighbors(node) for node in range(3)], [[2, 1], [0], [0]])
        self.assertEqual(network.size(), 3)

    def test_lists_returned_are_new(self):
        network = scattered()
        network.names().clear()
        network.neighbors(1).reverse()
        network.links().clear()
        distances(network, 0).clear()
        self.assertEqual(network.names(), [12, 5, 30, 0, 7, 21, 9])
        self.assertEqual(network.neighbors(1), [0, 3, 5])
        self.assertEqual(len(network.links()), 6)
        self.assertEqual(network.far_port(1, 0), 1)
        self.assertEqual(len(distances(network, 0)), 7)

    def test_kinds_of_values(self):
        network = path(3)
        for value in [network.names(), network.neighbors(1), network.links(), distances(network, 0)]:
            self.assertIs(type(value), list)
        self.assertIs(type(bounds_of(network)), tuple)


class InvalidNetworkTest(unittest.TestCase):
    def wrong(self, names, neighbors):
        with self.assertRaises(InvalidNetwork):
            Network(names, neighbors)

    def test_no_nodes(self):
        self.wrong([], [])

    def test_more_lists_than_names(self):
        self.wrong([0], [[], []])
        self.wrong([], [[]])

    def test_more_names_than_lists(self):
        self.wrong([0, 1, 2], [[1], [0]])
        self.wrong([0], [])

    def test_negative_name(self):
        self.wrong([0, -1], [[1], [0]])

    def test_name_twice(self):
        self.wrong([4, 1, 4], [[], [], []])

    def test_neighbor_that_there_is_not(self):
        self.wrong([0, 1], [[1], [0, 2]])

    def test_negative_neighbor(self):
        self.wrong([0, 1], [[-1], [0]])
        self.wrong([0, 1], [[-1], [-2]])
        self.wrong([0, 1], [[-1, 1], [0]])
        self.wrong([0, 1], [[1], [0, -2]])

    def test_own_neighbor(self):
        self.wrong([0, 1], [[0, 1], [0]])
        self.wrong([0], [[0]])

    def test_neighbor_twice(self):
        self.wrong([0, 1], [[1, 1], [0]])
        self.wrong([0, 1], [[1, 1], [0, 0]])

    def test_none_in_return(self):
        self.wrong([0, 1], [[1], []])
        self.wrong([0, 1, 2], [[1], [2], [0]])
        self.wrong([0, 1, 2], [[1], [0], [1]])


class DistancesTest(unittest.TestCase):
    def test_no_way(self):
        self.assertEqual(distances(scattered(), 0), [0, 1, None, 1, None, 2, None])
        self.assertEqual(distances(scattered(), 2), [None, None, 0, None, None, None, None])
        self.assertEqual(distances(scattered(), 6), [None, None, None, None, 1, None, 0])

    def test_connected(self):
        self.assertEqual(distances(path(5), 1), [1, 0, 1, 2, 3])
        self.assertEqual(distances(ring(6), 4), [2, 3, 2, 1, 0, 1])
        self.assertEqual(distances(grid(3, 4), 5), [2, 1, 2, 3, 1, 0, 1, 2, 2, 1, 2, 3])
        self.assertEqual(distances(star(4), 2), [1, 2, 0, 2])
        self.assertEqual(distances(path(1), 0), [0])

    def test_symmetric_and_least(self):
        for network in samples():
            rows = [distances(network, node) for node in range(network.size())]
            for u, row in enumerate(rows):
                self.assertEqual(row[u], 0)
                for v, away in enumerate(row):
                    self.assertEqual(away, rows[v][u])
                    if away not in (None, 0):
                        self.assertEqual(away, 1 + min(row[w] for w in network.neighbors(v)))


class BoundsTest(unittest.TestCase):
    def test_least_bounds(self):
        self.assertEqual(bounds_of(scattered()), (3, 31))
        self.assertEqual(bounds_of(crooked_grid()), (4, 41))
        self.assertEqual(bounds_of(complete(5)), (4, 5))
        self.assertEqual(bounds_of(path(2)), (1, 2))

    def test_least_bounds_without_links(self):
        self.assertEqual(bounds_of(path(1)), (1, 1))
        self.assertEqual(bounds_of(renamed(path(1), [8])), (1, 9))
        self.assertEqual(bounds_of(Network([4, 2], [[], []])), (1, 5))

    def test_just_enough(self):
        for network in samples():
            most, end = bounds_of(network)
            self.assertIs(suits(network, (most, end)), True)
            self.assertIs(suits(network, (most + 3, end + 20)), True)

    def test_too_small(self):
        for network in samples():
            most, end = bounds_of(network)
            self.assertIs(suits(network, (most, end - 1)), False)
            if network.links():
                self.assertIs(suits(network, (most - 1, end)), False)


if __name__ == "__main__":
    unittest.main()
