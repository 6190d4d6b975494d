"""What holds for all algorithms, and for the functions that check lists."""

import copy
import unittest

from nearby.balls import ball_of, output_in_ball, output_in_view, view_of
from nearby.building import path, renamed
from nearby.checks import Content
from nearby.coloring import Colors, Fewer, Shrink, is_coloring
from nearby.forests import Forests, Heights, are_forests
from nearby.linkwork import LinkColors, OnLinks, are_link_colors
from nearby.matching import CoverByMatching, Matching, MatchingFromColors, NamelessCover, is_matching
from nearby.matching import is_maximal_matching
from nearby.netreader import network_text
from nearby.network import bounds_of
from nearby.ordered import FirstIndependent
from nearby.powers import FarColors, FarIndependent, OnPower
from nearby.ruling import Clusters, ClustersFromRulers, Rulers, are_clusters, are_rulers
from nearby.running import run
from nearby.sets import (
    Independent, IndependentFromColors, is_cover, is_dominating, is_independent, is_maximal_independent,
)
from tests.helpers import Mixed, inputs_for, is_data, outputs_of, samples, scattered


def algorithms(network):
    """Each algorithm with a list of inputs that it may get."""
    bounds = bounds_of(network)
    colors = run(network, bounds, Colors())
    rulers = run(network, bounds, Rulers())
    return [
        (Shrink(), None), (Fewer(bounds[1]), network.names()), (Colors(), None), (IndependentFromColors(), colors),
        (Independent(), None), (MatchingFromColors(), colors), (Matching(), None), (CoverByMatching(), None),
        (NamelessCover(), None), (Rulers(), None), (ClustersFromRulers(), rulers), (Clusters(), None),
        (Forests(), None), (Heights(3), None), (FirstIndependent(3), None),
        (Content(("colors", 2)), colors), (Content(("independent",)), colors), (Content(("matching",)), colors),
        (OnPower(Mixed(2), 2), colors), (FarColors(1), None), (FarIndependent(2), None),
        (OnLinks(Mixed(2)), None), (LinkColors(), None),
    ]


class AlgorithmsTest(unittest.TestCase):
    def test_a_run_modifies_nothing_and_can_be_repeated(self):
        for network in samples():
            bounds = bounds_of(network)
            text = network_text(network)
            for algorithm, given in algorithms(network):
                before = copy.deepcopy(given)
                told = vars(algorithm).copy()
                first = run(network, bounds, algorithm, given=given)
                self.assertEqual(run(network, bounds, algorithm, given=given), first)
                self.assertEqual(given, before)
                self.assertEqual(vars(algorithm), told)
                self.assertEqual(network_text(network), text)
                self.assertTrue(all(map(is_data, first)))

    def test_outputs_follow_from_balls_and_views(self):
        for network in samples():
            bounds = bounds_of(network)
            for algorithm, given in algorithms(network):
                rounds = algorithm.rounds(bounds)
                outputs = run(network, bounds, algorithm, given=given)
                for node in range(network.size()):
                    ball = ball_of(network, node, rounds, given=given)
                    self.assertEqual(output_in_ball(ball, bounds, algorithm), outputs[node])
                    if not algorithm.named and rounds < 40:
                        view = view_of(network, node, rounds, given=given)
                        self.assertEqual(output_in_view(view, bounds, algorithm), outputs[node])

    def test_a_node_alone(self):
        network = renamed(path(1), [6])
        expected = [
            [6], [0], [0], [1], [1], [-1], [-1], [0], [0], [1], [(6, 0, -1)], [(6, 0, -1)], [()], [0], [1],
            [1], [0], [0], [0], [0], [1], [()], [()],
        ]
        for (algorithm, given), outputs in zip(algorithms(network), expected):
            self.assertEqual(outputs_of(network, bounds_of(network), algorithm, given), outputs)

    def test_methods_modify_no_lists(self):
        network = scattered()
        bounds = bounds_of(network)
        for algorithm, given in algorithms(network):
            if algorithm.rounds(bounds) > 0:
                inputs = given or inputs_for(network)
                names = network.names()
                states = [
                    algorithm.begin(bounds, names[node] if algorithm.named else None, network.degree(node), inputs[node])
                    for node in range(network.size())
                ]
                for node, state in enumerate(states):
                    received = [
                        algorithm.letters(bounds, states[other])[network.far_port(node, port)]
                        for port, other in enumerate(network.neighbors(node))
                    ]
                    before = list(received)
                    after = algorithm.receive(bounds, state, received)
                    self.assertEqual(received, before)
                    self.assertEqual(algorithm.receive(bounds, state, received), after)
                    algorithm.letters(bounds, state).clear()
                    self.assertEqual(len(algorithm.letters(bounds, state)), network.degree(node))


class ChecksTest(unittest.TestCase):
    def test_lists_are_not_modified_and_answers_are_true_or_false(self):
        network = path(3)
        for check, outputs, more in [
            (is_coloring, [0, 1, 0], [2]), (is_independent, [1, 0, 0], []), (is_maximal_independent, [0, 1, 0], []),
            (is_dominating, [0, 1, 1], []), (is_cover, [0, 1, 1], []), (is_matching, [-1, -1, -1], []),
            (is_maximal_matching, [0, 0, -1], []), (are_rulers, [1, 0, 1], [1]),
            (are_clusters, [(0, 0, -1), (0, 1, 0), (2, 0, -1)], [1]), (are_forests, [(0,), (-1, 0), (-1,)], []),
            (are_link_colors, [(1,), (1, 0), (0,)], [2]),
        ]:
            before = copy.deepcopy(outputs)
            for _ in range(2):
                self.assertIs(check(network, outputs, *more), True)
            self.assertIs(check(network, outputs + outputs[:1], *more), False)
            self.assertIs(check(network, outputs[:2], *more), False)
            self.assertIs(check(network, [], *more), False)
            self.assertEqual(outputs, before)


if __name__ == "__main__":
    unittest.main()
