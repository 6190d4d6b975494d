import itertools
import unittest

from nearby.building import path, renamed, ring, star
from nearby.coloring import Colors
from nearby.network import Network, bounds_of
from nearby.running import run, states_after
from nearby.sets import (
    Independent, IndependentFromColors, is_cover, is_dominating, is_independent, is_maximal_independent,
)
from tests.helpers import bounds_for, changed, is_data, many, outputs_of, samples, scattered

CHECKS = [is_independent, is_maximal_independent, is_dominating, is_cover]


def by_words(network, outputs):
    """What each of the four functions must return for a list of 0 and 1."""
    ones = {node for node, output in enumerate(outputs) if output == 1}
    near = [set(network.neighbors(node)) for node in range(network.size())]
    independent = not any(near[node] & ones for node in ones)
    maximal = all(near[node] & ones for node in range(network.size()) if node not in ones)
    cover = all(node in ones or other in ones for node in range(network.size()) for other in near[node])
    return [independent, independent and maximal, maximal, cover]


def chosen_by_words(network, bounds, colors):
    """The set after one round for each color."""
    chosen = set()
    for color in range(bounds[0] + 1):
        new = {
            node for node in range(network.size())
            if colors[node] == color and not chosen & set(network.neighbors(node))
        }
        chosen |= new
    return [1 if node in chosen else 0 for node in range(network.size())]


class ChecksTest(unittest.TestCase):
    def test_all_lists_on_small_networks(self):
        for network in samples():
            if network.size() <= 7:
                for outputs in itertools.product([0, 1], repeat=network.size()):
                    told = [check(network, list(outputs)) for check in CHECKS]
                    self.assertEqual(told, by_words(network, outputs))
                    self.assertTrue(all(type(value) is bool for value in told))

    def test_a_single_node_too_much_or_too_little(self):
        network = path(5)
        self.assertIs(is_independent(network, [1, 0, 1, 0, 0]), True)
        self.assertIs(is_independent(network, [1, 0, 1, 1, 0]), False)
        self.assertIs(is_maximal_independent(network, [1, 0, 1, 0, 1]), True)
        self.assertIs(is_maximal_independent(network, [0, 1, 0, 0, 1]), True)
        self.assertIs(is_maximal_independent(network, [1, 0, 1, 0, 0]), False)
        self.assertIs(is_maximal_independent(network, [1, 0, 1, 1, 0]), False)
        self.assertIs(is_dominating(network, [0, 1, 0, 1, 0]), True)
        self.assertIs(is_dominating(network, [0, 1, 1, 1, 0]), True)
        self.assertIs(is_dominating(network, [0, 1, 0, 0, 0]), False)
        self.assertIs(is_cover(network, [0, 1, 0, 1, 0]), True)
        self.assertIs(is_cover(network, [0, 1, 0, 0, 1]), False)
        self.assertIs(is_cover(network, [0, 1, 0, 0, 0]), False)

    def test_nodes_without_links(self):
        network = Network([4, 2], [[], []])
        self.assertEqual([check(network, [1, 1]) for check in CHECKS], [True, True, True, True])
        self.assertEqual([check(network, [1, 0]) for check in CHECKS], [True, False, False, True])
        self.assertEqual([check(network, [0, 0]) for check in CHECKS], [True, False, False, True])

    def test_other_numbers(self):
        network = ring(4)
        good = [[0, 0, 0, 0], [1, 0, 1, 0], [1, 0, 1, 0], [1, 0, 1, 0]]
        for check, outputs in zip(CHECKS, good):
            self.assertIs(check(network, outputs), True)
            for node in range(4):
                for number in [-1, 2, 3, -2, 10]:
                    self.assertIs(check(network, changed(outputs, node, number)), False)
        self.assertEqual([check(path(1), [2]) for check in CHECKS], [False] * 4)
        self.assertEqual([check(path(2), [-1, 2]) for check in CHECKS], [False] * 4)

    def test_wrong_lengths(self):
        for network in samples():
            size = network.size()
            colors = run(network, bounds_of(network), Colors())
            outputs = run(network, bounds_of(network), IndependentFromColors(), given=colors)
            for check, row in zip(CHECKS, [outputs, outputs, outputs, [1] * size]):
                self.assertIs(check(network, row), True)
                self.assertIs(check(network, row[:-1]), False)
                self.assertIs(check(network, row + [0]), False)
                self.assertIs(check(network, row + [1]), False)
                self.assertIs(check(network, []), False)

    def test_nothing_is_modified(self):
        for check in CHECKS:
            outputs = [0, 1, 0, 1]
            check(path(4), outputs)
            self.assertEqual(outputs, [0, 1, 0, 1])


class IndependentTest(unittest.TestCase):
    def test_from_colors_against_rounds(self):
        for network in many():
            for bounds in bounds_for(network):
                colors = run(network, bounds, Colors())
                for given in [colors, [bounds[0] - color for color in colors]]:
                    outputs = outputs_of(network, bounds, IndependentFromColors(), given)
                    self.assertEqual(outputs, chosen_by_words(network, bounds, given))
                    self.assertIs(is_maximal_independent(network, outputs), True)

    def test_by_hand(self):
        self.assertEqual(run(path(5), (2, 5), IndependentFromColors(), given=[1, 2, 1, 0, 2]), [1, 0, 0, 1, 0])
        self.assertEqual(run(path(5), (2, 5), IndependentFromColors(), given=[2, 1, 2, 1, 2]), [0, 1, 0, 1, 0])
        self.assertEqual(run(star(4), (3, 4), IndependentFromColors(), given=[3, 0, 1, 2]), [0, 1, 1, 1])
        self.assertEqual(run(star(4), (3, 4), IndependentFromColors(), given=[0, 1, 1, 2]), [1, 0, 0, 0])

    def test_without_links(self):
        for color in [0, 1]:
            self.assertEqual(outputs_of(path(1), (1, 1), IndependentFromColors(), [color]), [1])
        self.assertEqual(outputs_of(path(1), (1, 1), Independent()), [1])
        self.assertEqual(outputs_of(Network([8, 3], [[], []]), (4, 100), Independent()), [1, 1])

    def test_rounds_and_named(self):
        self.assertIs(IndependentFromColors().named, False)
        self.assertIs(Independent().named, True)
        for bounds in [(1, 1), (2, 50), (6, 100000)]:
            self.assertEqual(IndependentFromColors().rounds(bounds), bounds[0] + 1)
            self.assertEqual(Independent().rounds(bounds), Colors().rounds(bounds) + bounds[0] + 1)

    def test_independent_is_colors_and_then_the_set(self):
        for network in many():
            for bounds in bounds_for(network):
                outputs = outputs_of(network, bounds, Independent())
                self.assertEqual(outputs, chosen_by_words(network, bounds, run(network, bounds, Colors())))
                self.assertIs(is_maximal_independent(network, outputs), True)

    def test_states_and_letters_are_data(self):
        network = scattered()
        for algorithm in [IndependentFromColors(), Independent()]:
            for count in range(algorithm.rounds((3, 31)) + 1):
                states = states_after(network, (3, 31), algorithm, count, given=[0, 1, 0, 2, 0, 0, 1])
                for node, state in enumerate(states):
                    letters = algorithm.letters((3, 31), state)
                    self.assertTrue(is_data(state) and is_data(tuple(letters)))
                    self.assertEqual(len(letters), network.degree(node))

    def test_the_first_color_comes_first(self):
        network = renamed(ring(6), [5, 3, 4, 1, 0, 2])
        self.assertEqual(run(network, (2, 6), IndependentFromColors(), given=[1, 0, 1, 2, 1, 2]), [0, 1, 0, 0, 1, 0])


if __name__ == "__main__":
    unittest.main()
