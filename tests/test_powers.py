import itertools
import random
import unittest

from nearby.balls import Gather, ball_of, output_in_ball
from nearby.building import grid, path, renamed, ring, star, turned
from nearby.coloring import Colors, is_coloring
from nearby.errors import InvalidInput
from nearby.joining import Then
from nearby.late import run_late
from nearby.matching import Matching, NamelessCover
from nearby.network import Network, bounds_of, distances, suits
from nearby.powers import FarColors, FarIndependent, OnPower, power, power_bounds
from nearby.ruling import Clusters
from nearby.running import run, states_after
from nearby.sets import Independent, is_maximal_independent
from nearby.simple import Echo, Names, Quiet, Spread
from tests.helpers import (
    ByBounds, Diary, Mixed, NamedMixed, complete, crooked_grid, inputs_for, is_data, many, samples, scattered, tangled,
)


def rows_of(network):
    return [network.neighbors(node) for node in range(network.size())]


def ways_within(network, node, most):
    """The nodes to which ways of at most a number of links lead."""
    found = {node}
    for _ in range(most):
        found |= {other for near in found for other in network.neighbors(near)}
    return found - {node}


class PowerTest(unittest.TestCase):
    def test_every_exponent(self):
        for network in many():
            names = network.names()
            for exponent in list(range(1, 6)) + [network.size(), network.size() + 3]:
                found = power(network, exponent)
                self.assertEqual(found.names(), names)
                for node in range(network.size()):
                    near = sorted(ways_within(network, node, exponent), key=lambda other: names[other])
                    self.assertEqual(found.neighbors(node), near)

    def test_by_hand(self):
        network = renamed(path(4), [3, 9, 1, 4])
        self.assertEqual(rows_of(power(network, 1)), [[1], [2, 0], [3, 1], [2]])
        self.assertEqual(rows_of(power(network, 2)), [[2, 1], [2, 0, 3], [0, 3, 1], [2, 1]])
        self.assertEqual(rows_of(power(network, 3)), [[2, 3, 1], [2, 0, 3], [0, 3, 1], [2, 0, 1]])
        self.assertEqual(rows_of(power(network, 9)), rows_of(power(network, 3)))
        self.assertEqual(rows_of(network), [[1], [0, 2], [1, 3], [2]])

    def test_parts_stay_apart(self):
        network = scattered()
        found = power(network, 20)
        for node in range(7):
            away = distances(network, node)
            near = distances(found, node)
            self.assertEqual([far is None for far in near], [far is None for far in away])
            self.assertLessEqual(max(far for far in near if far is not None), 1)
        self.assertEqual(rows_of(power(Network([4, 2], [[], []]), 3)), [[], []])
        self.assertEqual(rows_of(power(path(1), 1)), [[]])

    def test_a_ring(self):
        self.assertEqual(power(ring(5), 1).neighbors(0), [1, 4])
        self.assertEqual(power(ring(5), 2).neighbors(0), [1, 2, 3, 4])
        self.assertEqual(power(ring(6), 2).neighbors(2), [0, 1, 3, 4])

    def test_bounds(self):
        for exponent in range(1, 7):
            self.assertEqual(power_bounds((1, 9), exponent), (1, 9))
            self.assertEqual(power_bounds((2, 100), exponent), (2 * exponent, 100))
        self.assertEqual([power_bounds((3, 7), exponent)[0] for exponent in [1, 2, 3, 4]], [3, 9, 21, 45])
        self.assertEqual([power_bounds((6, 5), exponent)[0] for exponent in [1, 2, 3]], [6, 36, 186])

    def test_bounds_suit_the_power(self):
        for network in many():
            for exponent in [1, 2, 3, 4]:
                bounds = power_bounds(bounds_of(network), exponent)
                self.assertTrue(suits(power(network, exponent), bounds))
        # The bounds are reached: every node of this ring has 4 others within 2 links.
        self.assertFalse(suits(power(ring(7), 2), (3, 7)))

    def test_exponents_below_1(self):
        for exponent in [0, -1, -5]:
            with self.assertRaises(InvalidInput):
                power(path(3), exponent)
            with self.assertRaises(InvalidInput):
                power_bounds((2, 3), exponent)


class OnPowerTest(unittest.TestCase):
    def check(self, network, bounds, algorithm, exponent, given=None):
        """The outputs, which must be those on the power, also late."""
        lifted = OnPower(algorithm, exponent)
        bounds_there = power_bounds(bounds, exponent)
        self.assertIs(lifted.named, True)
        self.assertEqual(lifted.rounds(bounds), exponent + exponent * algorithm.rounds(bounds_there))
        expected = run(power(network, exponent), bounds_there, algorithm, given=given)
        self.assertEqual(run(network, bounds, lifted, given=given), expected)
        return lifted, expected

    def test_outputs_of_named_and_nameless_algorithms(self):
        algorithms = [
            Names(2), NamedMixed(3), ByBounds(), Diary(True, 2), Colors(), Clusters(), Gather(1),
            Mixed(0), Mixed(3), Diary(False, 2), Spread(2), Echo(), Quiet(5), Then(NamedMixed(1), Mixed(2)),
        ]
        for network in samples():
            degree, names = bounds_of(network)
            for algorithm, exponent in itertools.product(algorithms, [1, 2, 3]):
                for bounds in [(degree, names), (degree + 1, names + 9)]:
                    self.check(network, bounds, algorithm, exponent, inputs_for(network))
                if not isinstance(algorithm, Spread):
                    self.check(network, (degree, names), algorithm, exponent)

    def test_late_runs(self):
        choose = random.Random(2)
        for network in samples():
            bounds = bounds_of(network)
            for algorithm in [NamedMixed(2), Diary(False, 2)]:
                for exponent in [1, 2, 3]:
                    for given in [None, inputs_for(network)]:
                        lifted, expected = self.check(network, bounds, algorithm, exponent, given)
                        choices = [choose.randrange(300) for _ in range(300)]
                        self.assertEqual(run_late(network, bounds, lifted, choices, given=given)[0], expected)

    def test_outputs_in_balls(self):
        for network in [path(4), renamed(ring(5), [8, 2, 30, 4, 1]), scattered(), crooked_grid()]:
            bounds, given = bounds_of(network), inputs_for(network)
            for algorithm in [NamedMixed(1), Mixed(2), Echo()]:
                for exponent in [1, 2, 3]:
                    lifted, expected = self.check(network, bounds, algorithm, exponent, given)
                    for node in range(network.size()):
                        for more in [0, 2]:
                            ball = ball_of(network, node, lifted.rounds(bounds) + more, given=given)
                            self.assertEqual(output_in_ball(ball, bounds, lifted), expected[node])

    def test_exponents_above_the_greatest_distance(self):
        for network in [path(3), star(5), scattered(), complete(4), path(1)]:
            for exponent in [4, 7]:
                self.check(network, bounds_of(network), NamedMixed(2), exponent, inputs_for(network))

    def test_many_nodes(self):
        for seed, count, most in [(4, 16, 6), (5, 20, 3), (8, 25, 4)]:
            network = tangled(seed, count, most)
            for exponent in [1, 2, 3]:
                self.check(network, bounds_of(network), Diary(True, 1), exponent, inputs_for(network))
                self.check(network, bounds_of(network), NamelessCover(), exponent)

    def test_on_the_power_of_a_power(self):
        network = renamed(path(6), [5, 3, 9, 0, 7, 2])
        expected = run(power(power(network, 2), 2), (6, 10), NamedMixed(2))
        bounds = power_bounds(power_bounds((2, 10), 2), 2)
        self.assertEqual(run(power(power(network, 2), 2), bounds, NamedMixed(2)), expected)
        self.assertEqual(run(network, (2, 10), OnPower(OnPower(NamedMixed(2), 2), 2)), expected)

    def test_joined_with_others(self):
        network, given = crooked_grid(), inputs_for(crooked_grid())
        bounds = bounds_of(network)
        first = run(network, bounds, Spread(1), given=given)
        second = run(power(network, 2), power_bounds(bounds, 2), Mixed(1), given=first)
        self.assertEqual(run(network, bounds, Then(Spread(1), OnPower(Mixed(1), 2)), given=given), second)

    def test_states_and_letters_are_data(self):
        network, given = scattered(), [None, 3, "x", (1, ()), -5, 0, ("y",)]
        bounds = bounds_of(network)
        for algorithm in [OnPower(Diary(True, 2), 2), FarColors(2), FarIndependent(1)]:
            for count in range(min(9, algorithm.rounds(bounds)) + 1):
                states = states_after(network, bounds, algorithm, count, given=given)
                for node, state in enumerate(states):
                    if count < algorithm.rounds(bounds):
                        letters = algorithm.letters(bounds, state)
                        self.assertIs(type(letters), list)
                        self.assertEqual(len(letters), network.degree(node))
                        self.assertTrue(is_data(tuple(letters)))
                    self.assertTrue(is_data(state))


class FarTest(unittest.TestCase):
    def networks(self):
        return samples() + [
            tangled(2, 10, 3), renamed(grid(4, 4), [node * 37 % 64 for node in range(16)]),
            turned(ring(9), [[1, 0]] * 9),
        ]

    def test_colors(self):
        for network in self.networks():
            bounds = bounds_of(network)
            for exponent in [1, 2, 3]:
                algorithm = FarColors(exponent)
                bounds_there = power_bounds(bounds, exponent)
                outputs = run(network, bounds, algorithm)
                self.assertIs(algorithm.named, True)
                self.assertEqual(algorithm.rounds(bounds), exponent + exponent * Colors().rounds(bounds_there))
                self.assertEqual(outputs, run(power(network, exponent), bounds_there, Colors()))
                self.assertTrue(is_coloring(power(network, exponent), outputs, bounds_there[0] + 1))
                for node in range(network.size()):
                    for other in ways_within(network, node, exponent):
                        self.assertNotEqual(outputs[node], outputs[other])

    def test_independent_sets(self):
        for network in self.networks():
            bounds = bounds_of(network)
            for exponent in [1, 2, 3]:
                algorithm = FarIndependent(exponent)
                outputs = run(network, bounds, algorithm)
                bounds_there = power_bounds(bounds, exponent)
                self.assertIs(algorithm.named, True)
                self.assertEqual(algorithm.rounds(bounds), exponent + exponent * Independent().rounds(bounds_there))
                self.assertIs(is_maximal_independent(power(network, exponent), outputs), True)

    def test_greater_names(self):
        network = renamed(grid(3, 3), [99999, 20, 3001, 0, 777, 54321, 1234, 88888, 6])
        outputs = run(network, (4, 100000), FarColors(1))
        self.assertIs(is_coloring(network, outputs, 5), True)
        network = renamed(path(5), [99999, 20, 3001, 0, 777])
        self.assertIs(is_coloring(power(network, 2), run(network, (2, 100000), FarColors(2)), 5), True)

    def test_a_matching_on_the_power(self):
        network = crooked_grid()
        bounds = power_bounds(bounds_of(network), 2)
        expected = run(power(network, 2), bounds, Matching())
        self.assertEqual(run(network, bounds_of(network), OnPower(Matching(), 2)), expected)


if __name__ == "__main__":
    unittest.main()
