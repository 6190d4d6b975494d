import itertools
import unittest

from nearby.alike import alike_pairs, alike_radius, are_alike
from nearby.balls import ball_of, view_of
from nearby.building import grid, path, renamed, ring, star, turned
from nearby.lifts import lift
from nearby.network import Network
from tests.helpers import complete, crooked_grid, samples, scattered, tangled


def look(network, node, radius, named):
    return ball_of(network, node, radius) if named else view_of(network, node, radius)


def pairs_by_words(first, second, radius, named):
    near = [look(first, node, radius, named) for node in range(first.size())]
    far = [look(second, node, radius, named) for node in range(second.size())]
    return [(u, v) for u in range(first.size()) for v in range(second.size()) if near[u] == far[v]]


def networks():
    """Pairs of networks whose nodes are alike for a while, for ever, or not at all."""
    base = renamed(path(6), [8, 3, 0, 5, 1, 4])
    return [
        (path(4), path(4)), (path(5), path(6)), (path(1), path(1)), (path(1), renamed(path(1), [6])),
        (ring(4), ring(6)), (ring(5), path(7)), (star(4), star(5)), (base, renamed(path(7), [8, 3, 0, 5, 1, 4, 9])),
        (base, turned(base, [[0], [0, 1], [1, 0], [0, 1], [0, 1], [0]])), (scattered(), scattered()),
        (scattered(), Network([12, 5, 30, 0, 7, 21, 9], [[3, 1], [0, 3, 5], [], [5, 1, 0], [6], [1, 3], [4]])),
        (crooked_grid(), grid(3, 3)), (Network([4, 2], [[], []]), Network([2, 9, 4], [[], [2], [1]])),
        (ring(3), lift(ring(3), 2, [1, 0, 0], list(range(6)))), (complete(4), complete(4)),
        (path(3), Network([0, 1, 2, 7], [[1], [0, 2], [1], []])),
    ]


class AreAlikeTest(unittest.TestCase):
    def test_against_balls_and_views(self):
        for first, second in networks():
            for named in [True, False]:
                for radius in [0, 1, 2, 3, 5]:
                    right = pairs_by_words(first, second, radius, named)
                    for pair in itertools.product(range(first.size()), range(second.size())):
                        told = are_alike(first, pair[0], second, pair[1], radius, named)
                        self.assertIs(told, pair in right)

    def test_one_network(self):
        for network in samples():
            for named in [True, False]:
                for radius in [0, 1, 2, 4]:
                    right = pairs_by_words(network, network, radius, named)
                    for pair in itertools.product(range(network.size()), repeat=2):
                        self.assertIs(are_alike(network, pair[0], network, pair[1], radius, named), pair in right)

    def test_great_radii(self):
        # Equal views of this depth have more parts than can be looked at one by one.
        self.assertIs(are_alike(complete(6), 0, complete(6), 3, 60, False), False)
        self.assertIs(are_alike(ring(9), 2, ring(15), 7, 60, False), True)
        self.assertIs(are_alike(ring(9), 2, ring(15), 7, 10 ** 6, False), True)
        self.assertIs(are_alike(ring(9), 2, ring(9), 2, 10 ** 6, True), True)
        network = grid(5, 8)
        self.assertIs(are_alike(network, 12, network, 12, 90, False), True)
        self.assertIs(are_alike(network, 12, network, 13, 90, False), False)


def radius_by_words(first, node, second, other, named):
    """The greatest radius, by trying all up to a number from which on nothing changes any more."""
    enough = max(first.size(), second.size()) if named else first.size() + second.size()
    for radius in range(enough + 1):
        if look(first, node, radius, named) != look(second, other, radius, named):
            return radius - 1
    return None


class AlikeRadiusTest(unittest.TestCase):
    def test_against_balls_and_views(self):
        found = {True: set(), False: set()}
        for first, second in networks():
            for named in [True, False]:
                if first.size() + second.size() > 14 and not named:
                    continue
                for node, other in itertools.product(range(first.size()), range(second.size())):
                    expected = radius_by_words(first, node, second, other, named)
                    self.assertEqual(alike_radius(first, node, second, other, named), expected)
                    found[named].add(expected)
        self.assertLessEqual({-1, 0, 1, None}, found[True])
        self.assertLessEqual({-1, 0, 1, 2, None}, found[False])

    def test_it_is_the_last_radius(self):
        for network in [crooked_grid(), grid(4, 5), tangled(5, 20, 3), renamed(path(9), [8, 3, 77, 5, 1, 60, 2, 9, 4])]:
            for named in [True, False]:
                for node, other in itertools.product(range(0, network.size(), 3), range(network.size())):
                    radius = alike_radius(network, node, network, other, named)
                    if radius is None:
                        self.assertIs(are_alike(network, node, network, other, 50, named), True)
                    else:
                        self.assertIs(are_alike(network, node, network, other, radius + 1, named), False)
                        self.assertTrue(radius == -1 or are_alike(network, node, network, other, radius, named))

    def test_by_hand(self):
        self.assertEqual(alike_radius(path(9), 4, path(10), 4, True), 3)
        self.assertEqual(alike_radius(path(9), 4, path(9), 4, True), None)
        self.assertEqual(alike_radius(path(9), 4, path(9), 5, True), -1)
        self.assertEqual(alike_radius(path(9), 0, path(12), 0, True), 7)
        self.assertEqual(alike_radius(path(9), 0, path(9), 8, False), 0)
        self.assertEqual(alike_radius(path(9), 0, path(9), 1, False), -1)
        self.assertEqual(alike_radius(path(9), 0, path(12), 0, False), 7)
        self.assertIsNone(alike_radius(ring(5), 0, ring(8), 3, False))
        self.assertEqual(alike_radius(ring(5), 0, ring(8), 0, True), 0)
        self.assertEqual(alike_radius(path(1), 0, renamed(path(1), [6]), 0, True), -1)
        self.assertIsNone(alike_radius(path(1), 0, renamed(path(1), [6]), 0, False))

    def test_nodes_of_a_lift(self):
        network = renamed(crooked_grid(), list(range(9)))
        lifted = lift(network, 2, [1] + [0] * 11, list(range(18)))
        for node in range(18):
            self.assertIsNone(alike_radius(lifted, node, network, node // 2, False))

    def test_long_paths(self):
        # They differ only where the far end of the longer one is seen.
        self.assertEqual(alike_radius(path(39), 0, path(40), 0, True), 37)
        self.assertEqual(alike_radius(path(39), 0, path(40), 0, False), 37)
        one = turned(path(40), [[0]] + [[0, 1]] * 38 + [[0]])
        self.assertIsNone(alike_radius(one, 20, path(40), 20, False))


class AlikePairsTest(unittest.TestCase):
    def test_against_balls_and_views(self):
        for first, second in networks() + [(network, network) for network in samples()]:
            for named in [True, False]:
                for radius in [0, 1, 2, 4]:
                    expected = pairs_by_words(first, second, radius, named)
                    for _ in range(2):
                        found = alike_pairs(first, second, radius, named)
                        self.assertIs(type(found), list)
                        self.assertEqual(found, expected)
                        self.assertEqual(found, sorted(set(found)))
                        found.clear()

    def test_by_hand(self):
        self.assertEqual(alike_pairs(path(3), path(4), 1, True), [(0, 0)])
        self.assertEqual(alike_pairs(path(4), path(5), 1, True), [(0, 0), (1, 1)])
        self.assertEqual(alike_pairs(path(3), path(4), 0, False), [(0, 0), (0, 3), (1, 1), (1, 2), (2, 0), (2, 3)])
        self.assertEqual(alike_pairs(path(3), path(4), 1, False), [(0, 0), (2, 3)])
        self.assertEqual(alike_pairs(path(2), ring(3), 0, False), [])

    def test_great_radii(self):
        pairs = [(node, other) for node in range(6) for other in range(9)]
        self.assertEqual(alike_pairs(ring(6), ring(9), 70, False), pairs)
        self.assertEqual(alike_pairs(grid(4, 5), grid(4, 5), 70, True), [(node, node) for node in range(20)])


if __name__ == "__main__":
    unittest.main()
