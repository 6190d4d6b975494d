"""What holds for all algorithms, and for the functions that check lists."""

import copy
import random
import unittest

from nearby.alike import alike_pairs, alike_radius, are_alike
from nearby.balls import Gather, GatherView, ball_of, output_in_ball, output_in_view, view_of
from nearby.building import path, renamed
from nearby.checks import Content, least_radius
from nearby.clustersums import ClusterSums, cluster_network
from nearby.coloring import Colors, Fewer, Shrink, is_coloring
from nearby.cuts import Cut, CutFromColors, cut_links
from nearby.forests import Forests, Heights, are_forests
from nearby.joining import Then
from nearby.late import run_late
from nearby.linkwork import LinkColors, OnLinks, are_link_colors, link_network
from nearby.lossy import run_lossy
from nearby.matching import CoverByMatching, Matching, MatchingFromColors, NamelessCover, is_matching
from nearby.matching import is_maximal_matching
from nearby.netreader import network_text
from nearby.network import bounds_of
from nearby.ordered import FirstIndependent, first_independent
from nearby.pieces import InPieces, longest_letter
from nearby.powers import FarColors, FarIndependent, OnPower, power
from nearby.ruling import Clusters, ClustersFromRulers, Rulers, are_clusters, are_rulers
from nearby.running import run
from nearby.sets import (
    Independent, IndependentFromColors, is_cover, is_dominating, is_independent, is_maximal_independent,
)
from nearby.simple import Echo, Names, Quiet, Spread
from nearby.steady import right_memories, run_steady, steady_step
from tests.helpers import Mixed, inputs_for, is_data, outputs_of, samples, scattered


def algorithms(network):
    """Each algorithm with a list of inputs that it may get."""
    bounds = bounds_of(network)
    colors = run(network, bounds, Colors())
    rulers = run(network, bounds, Rulers())
    return [
        (Shrink(), None), (Fewer(bounds[1]), network.names()), (Colors(), None), (IndependentFromColors(), colors),
        (Independent(), None), (MatchingFromColors(), colors), (Matching(), None), (CoverByMatching(), None),
        (NamelessCover(), None), (Rulers(), None), (ClustersFromRulers(), rulers), (Clusters(), None),
        (Forests(), None), (Heights(3), None), (FirstIndependent(3), None),
        (Content(("colors", 2)), colors), (Content(("independent",)), colors), (Content(("matching",)), colors),
        (OnPower(Mixed(2), 2), colors), (FarColors(1), None), (FarIndependent(2), None),
        (OnLinks(Mixed(2)), None), (LinkColors(), None), (CutFromColors(), colors), (Cut(), None),
        (ClusterSums(), inputs_for(network)), (InPieces(Names(2), 5, 150), None), (InPieces(Mixed(2), 2, 7), colors),
        (Names(2), None), (Spread(2), colors), (Echo(), colors), (Quiet(4), None), (Gather(2), colors),
        (GatherView(2), colors), (Then(Clusters(), Names(1)), None), (Then(Echo(), Spread(2)), colors),
    ]


class AlgorithmsTest(unittest.TestCase):
    def test_a_run_modifies_nothing_and_can_be_repeated(self):
        for network in samples():
            bounds = bounds_of(network)
            text = network_text(network)
            for algorithm, given in algorithms(network):
                before = copy.deepcopy(given)
                told = vars(algorithm).copy()
                first = run(network, bounds, algorithm, given=given)
                self.assertEqual(run(network, bounds, algorithm, given=given), first)
                self.assertEqual(given, before)
                self.assertEqual(vars(algorithm), told)
                self.assertEqual(network_text(network), text)
                self.assertTrue(all(map(is_data, first)))

    def test_outputs_follow_from_balls_and_views(self):
        for network in samples():
            bounds = bounds_of(network)
            for algorithm, given in algorithms(network):
                rounds = algorithm.rounds(bounds)
                outputs = run(network, bounds, algorithm, given=given)
                for node in range(network.size()):
                    ball = ball_of(network, node, rounds, given=given)
                    self.assertEqual(output_in_ball(ball, bounds, algorithm), outputs[node])
                    if not algorithm.named and rounds < 40:
                        view = view_of(network, node, rounds, given=given)
                        self.assertEqual(output_in_view(view, bounds, algorithm), outputs[node])

    def test_lossy_and_steady_runs(self):
        choose = random.Random(6)
        for network in samples():
            bounds = bounds_of(network)
            for algorithm, given in algorithms(network):
                outputs = run(network, bounds, algorithm, given=given)
                choices = [choose.randrange(200) for _ in range(300)]
                before = list(choices)
                self.assertEqual(run_late(network, bounds, algorithm, choices, given=given)[0], outputs)
                self.assertEqual(run_lossy(network, bounds, algorithm, choices, given=given)[0], outputs)
                self.assertEqual(choices, before)
                memories = right_memories(network, bounds, algorithm, given=given)
                kept = list(memories)
                self.assertEqual(steady_step(network, bounds, algorithm, memories, given=given), kept)
                for rounds in [0, 1, 2]:
                    told = run_steady(network, bounds, algorithm, memories, rounds, given=given)
                    self.assertEqual(told, outputs)
                self.assertEqual(memories, kept)

    def test_memories_of_other_inputs(self):
        # More algorithms than those of point 55 come right, if only the inputs were others.
        for network in samples():
            bounds = bounds_of(network)
            others = [2 * worth - 9 for worth in inputs_for(network)]
            for algorithm in [ClusterSums(), OnPower(Spread(1), 2), Then(Spread(1), Spread(1)), Gather(2), Mixed(3)]:
                memories = right_memories(network, bounds, algorithm, given=others)
                outputs = run(network, bounds, algorithm, given=inputs_for(network))
                rounds = algorithm.rounds(bounds) + 1
                told = run_steady(network, bounds, algorithm, memories, rounds, given=inputs_for(network))
                self.assertEqual(told, outputs)

    def test_a_node_alone(self):
        network = renamed(path(1), [6])
        expected = [
            [6], [0], [0], [1], [1], [-1], [-1], [0], [0], [1], [(6, 0, -1)], [(6, 0, -1)], [()], [0], [1],
            [1], [0], [0], [0], [0], [1], [()], [()], [0], [0],
            [(6, 2)], [(6,)], [0],
            [(6,)], [0], [0], [4], [(6, 2, ((6, 0, 0, 0, ()),))],
            [(0, 0, ())], [(6,)], [0],
        ]
        self.assertEqual(len(expected), len(algorithms(network)))
        for (algorithm, given), outputs in zip(algorithms(network), expected):
            self.assertEqual(outputs_of(network, bounds_of(network), algorithm, given), outputs)

    def test_methods_modify_no_lists(self):
        network = scattered()
        bounds = bounds_of(network)
        for algorithm, given in algorithms(network):
            if algorithm.rounds(bounds) > 0:
                inputs = given or inputs_for(network)
                names = network.names()
                states = [
                    algorithm.begin(bounds, names[node] if algorithm.named else None, network.degree(node), inputs[node])
                    for node in range(network.size())
                ]
                for node, state in enumerate(states):
                    received = [
                        algorithm.letters(bounds, states[other])[network.far_port(node, port)]
                        for port, other in enumerate(network.neighbors(node))
                    ]
                    before = list(received)
                    after = algorithm.receive(bounds, state, received)
                    self.assertEqual(received, before)
                    self.assertEqual(algorithm.receive(bounds, state, received), after)
                    algorithm.letters(bounds, state).clear()
                    self.assertEqual(len(algorithm.letters(bounds, state)), network.degree(node))


class FunctionsTest(unittest.TestCase):
    def test_calls_have_no_effect_on_later_calls(self):
        network, bounds = scattered(), bounds_of(scattered())
        text, given = network_text(network), inputs_for(network)
        clusters = run(network, bounds, Clusters())
        calls = [
            lambda: [network_text(power(network, 2))], lambda: [network_text(link_network(network, bounds))],
            lambda: [network_text(cluster_network(network, clusters))], lambda: first_independent(network),
            lambda: alike_pairs(network, network, 1, False), lambda: [cut_links(network, given)],
            lambda: [alike_radius(network, 1, network, 5, False), are_alike(network, 1, network, 5, 2, False)],
            lambda: [least_radius(("independent",), False, [network, path(3)])],
            lambda: [longest_letter(network, bounds, Spread(2), given=given)],
            lambda: right_memories(network, bounds, Spread(2), given=given),
            lambda: run(network, bounds, Spread(2), given=given),
            lambda: list(run_lossy(network, bounds, Spread(2), [3, 2, 7], given=given)),
        ]
        first = [call() for call in calls]
        kept = copy.deepcopy(first)
        for result in first:
            result.clear()
        for call in calls[::-1]:
            call()
        self.assertEqual([call() for call in calls], kept)
        self.assertEqual((network_text(network), given), (text, inputs_for(network)))
        self.assertEqual(clusters, run(network, bounds, Clusters()))


class ChecksTest(unittest.TestCase):
    def test_lists_are_not_modified_and_answers_are_true_or_false(self):
        network = path(3)
        for check, outputs, more in [
            (is_coloring, [0, 1, 0], [2]), (is_independent, [1, 0, 0], []), (is_maximal_independent, [0, 1, 0], []),
            (is_dominating, [0, 1, 1], []), (is_cover, [0, 1, 1], []), (is_matching, [-1, -1, -1], []),
            (is_maximal_matching, [0, 0, -1], []), (are_rulers, [1, 0, 1], [1]),
            (are_clusters, [(0, 0, -1), (0, 1, 0), (2, 0, -1)], [1]), (are_forests, [(0,), (-1, 0), (-1,)], []),
            (are_link_colors, [(1,), (1, 0), (0,)], [2]),
        ]:
            before = copy.deepcopy(outputs)
            for _ in range(2):
                self.assertIs(check(network, outputs, *more), True)
            self.assertIs(check(network, outputs + outputs[:1], *more), False)
            self.assertIs(check(network, outputs[:2], *more), False)
            self.assertIs(check(network, [], *more), False)
            self.assertEqual(outputs, before)


if __name__ == "__main__":
    unittest.main()
