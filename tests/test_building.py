import unittest

from nearby.building import grid, path, renamed, ring, star, turned
from nearby.errors import InvalidNetwork
from nearby.network import Network
from tests.helpers import scattered


def rows_of(network):
    return [network.neighbors(node) for node in range(network.size())]


class StandardTest(unittest.TestCase):
    def check(self, network, rows):
        self.assertIs(type(network), Network)
        self.assertEqual(network.names(), list(range(len(rows))))
        self.assertEqual(rows_of(network), rows)

    def test_path(self):
        self.check(path(1), [[]])
        self.check(path(2), [[1], [0]])
        self.check(path(4), [[1], [0, 2], [1, 3], [2]])

    def test_ring(self):
        self.check(ring(3), [[2, 1], [0, 2], [1, 0]])
        self.check(ring(5), [[4, 1], [0, 2], [1, 3], [2, 4], [3, 0]])

    def test_grid(self):
        self.check(grid(1, 1), [[]])
        self.check(grid(1, 3), [[1], [0, 2], [1]])
        self.check(grid(3, 1), [[1], [0, 2], [1]])
        self.check(grid(2, 3), [[1, 3], [0, 2, 4], [1, 5], [0, 4], [1, 3, 5], [2, 4]])
        self.assertEqual(grid(3, 3).neighbors(4), [1, 3, 5, 7])

    def test_star(self):
        self.check(star(1), [[]])
        self.check(star(2), [[1], [0]])
        self.check(star(5), [[1, 2, 3, 4], [0], [0], [0], [0]])

    def test_too_few(self):
        for build in [path, star]:
            for count in [0, -1, -5]:
                with self.assertRaises(InvalidNetwork):
                    build(count)
        for count in [2, 1, 0, -1, -4]:
            with self.assertRaises(InvalidNetwork):
                ring(count)
        for rows, columns in [(0, 3), (3, 0), (0, 0), (-1, 2), (2, -1), (-2, -2)]:
            with self.assertRaises(InvalidNetwork):
                grid(rows, columns)


class RenamedTest(unittest.TestCase):
    def test_other_names(self):
        network = scattered()
        names = [1, 2, 3, 4, 5, 6, 0]
        other = renamed(network, names)
        self.assertEqual(other.names(), [1, 2, 3, 4, 5, 6, 0])
        self.assertEqual(rows_of(other), rows_of(network))
        self.assertEqual(network.names(), [12, 5, 30, 0, 7, 21, 9])
        names[0] = 77
        self.assertEqual(other.names()[0], 1)

    def test_wrong_names(self):
        for names in [[], [0, 1], [0, 1, 2, 3], [5, 6, 5], [0, -1, 2]]:
            with self.assertRaises(InvalidNetwork):
                renamed(path(3), names)


class TurnedTest(unittest.TestCase):
    def test_other_ports(self):
        network = scattered()
        orders = [[1, 0], [2, 0, 1], [], [1, 2, 0], [0], [0, 1], [0]]
        kept = [list(order) for order in orders]
        other = turned(network, orders)
        self.assertEqual(orders, kept)
        self.assertEqual(rows_of(other), [[1, 3], [5, 0, 3], [], [1, 0, 5], [6], [1, 3], [4]])
        self.assertEqual(other.names(), network.names())
        self.assertEqual(rows_of(network), rows_of(scattered()))
        orders[0].reverse()
        self.assertEqual(other.neighbors(0), [1, 3])

    def test_wrong_numbers_of_orders(self):
        for orders in [[], [[0], [0, 1]], [[0], [0, 1], [0], []], [[0], [0, 1], [0], [0]]]:
            with self.assertRaises(InvalidNetwork):
                turned(path(3), orders)

    def test_wrong_orders(self):
        for order in [[], [0], [1], [0, 0], [1, 1], [0, 2], [1, 2], [0, -1], [-1, -2], [0, 1, 2], [0, 1, 1]]:
            with self.assertRaises(InvalidNetwork):
                turned(path(3), [[0], order, [0]])
        with self.assertRaises(InvalidNetwork):
            turned(path(1), [[0]])


if __name__ == "__main__":
    unittest.main()
