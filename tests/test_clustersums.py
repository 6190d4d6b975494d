import random
import unittest

from nearby.balls import ball_of, output_in_ball
from nearby.building import grid, path, renamed, ring, star
from nearby.clustersums import ClusterSums, cluster_network
from nearby.network import Network, bounds_of
from nearby.ruling import Clusters
from nearby.running import run, states_after
from tests.helpers import bounds_for, complete, inputs_for, is_data, many, outputs_of, samples, scattered, tangled


def sums_by_words(network, bounds, given):
    rulers = [ruler for ruler, _, _ in run(network, bounds, Clusters())]
    return [(ruler, sum(worth for worth, other in zip(given, rulers) if other == ruler)) for ruler in rulers]


def sent_by_words(network, bounds, given):
    """The letters of each of the rounds 2 B + 1 to 4 B as the words of point 61 tell them: {(node, port): letter}."""
    places, names = run(network, bounds, Clusters()), network.names()
    digits = ClusterSums().rounds(bounds) // 4
    worths, rows = list(given), []
    for up in range(1, digits + 1):
        row = {(node, port): worths[node] for node, (_, far, port) in enumerate(places) if far == digits - up + 1}
        for (node, port), worth in row.items():
            worths[network.neighbors(node)[port]] += worth
        rows.append(row)
    told = [(names[node], worths[node]) if far == 0 else None for node, (_, far, _) in enumerate(places)]
    for _ in range(digits):
        row = {}
        for node, known in enumerate(told):
            if known is not None:
                row.update({(node, port): known for port in range(network.degree(node))})
        rows.append(row)
        for (node, port), known in row.items():
            other = network.neighbors(node)[port]
            if places[other][0] == known[0]:
                told[other] = known
    return rows


class ClusterSumsTest(unittest.TestCase):
    def test_sums(self):
        choose = random.Random(4)
        for network in many() + [complete(7), renamed(grid(4, 4), [node * 37 % 64 for node in range(16)])]:
            for bounds in bounds_for(network) + [(6, 100000)]:
                for given in [inputs_for(network), [choose.randrange(-99, 99) for _ in range(network.size())]]:
                    before = list(given)
                    outputs = outputs_of(network, bounds, ClusterSums(), given)
                    self.assertEqual(outputs, sums_by_words(network, bounds, given))
                    self.assertEqual(given, before)

    def test_by_hand(self):
        # The rulers of this path are the nodes with the names 0 and 2.
        self.assertEqual(run(path(4), (2, 4), Clusters()), [(0, 0, -1), (0, 1, 0), (2, 0, -1), (2, 1, 0)])
        self.assertEqual(run(path(4), (2, 4), ClusterSums(), given=[5, -8, 10, 20]), [(0, -3), (0, -3), (2, 30), (2, 30)])
        network = Network([4, 2, 9], [[], [2], [1]])
        self.assertEqual(run(network, (1, 10), ClusterSums(), given=[-6, 1, 2]), [(4, -6), (2, 3), (2, 3)])
        self.assertEqual(run(path(1), (1, 1), ClusterSums(), given=[0]), [(0, 0)])

    def test_far_from_the_ruler(self):
        # Nodes with a distance of 2 and more from their ruler, whose sums go up in several rounds.
        found = set()
        for seed in range(30):
            network = tangled(seed, 14, 3)
            found |= {far for _, far, _ in run(network, bounds_of(network), Clusters())}
            given = [10 ** node for node in range(14)]
            outputs = run(network, bounds_of(network), ClusterSums(), given=given)
            self.assertEqual(outputs, sums_by_words(network, bounds_of(network), given))
        self.assertLessEqual({0, 1, 2}, found)

    def test_what_is_sent_in_each_round(self):
        for network in samples() + [tangled(5, 20, 3)]:
            bounds, given = bounds_of(network), [node * node - 7 for node in range(network.size())]
            algorithm = ClusterSums()
            digits = algorithm.rounds(bounds) // 4
            for count, row in enumerate(sent_by_words(network, bounds, given)):
                states = states_after(network, bounds, algorithm, 2 * digits + count, given=given)
                sent = {}
                for node, state in enumerate(states):
                    for port, letter in enumerate(algorithm.letters(bounds, state)):
                        if letter is not None:
                            sent[node, port] = letter
                self.assertEqual(sent, row)

    def test_rounds_and_named(self):
        self.assertIs(ClusterSums().named, True)
        for names, digits in [(1, 1), (2, 1), (3, 2), (64, 6), (65, 7), (100000, 17)]:
            for degree in [1, 6]:
                self.assertEqual(ClusterSums().rounds((degree, names)), 4 * digits)

    def test_in_balls(self):
        for network in samples():
            bounds, given = bounds_of(network), inputs_for(network)
            outputs = run(network, bounds, ClusterSums(), given=given)
            for node in range(network.size()):
                ball = ball_of(network, node, ClusterSums().rounds(bounds), given=given)
                self.assertEqual(output_in_ball(ball, bounds, ClusterSums()), outputs[node])

    def test_states_and_letters_are_data(self):
        network, given = scattered(), [3, -1, 4, 0, 5, -9, 2]
        for count in range(ClusterSums().rounds((3, 31)) + 1):
            for node, state in enumerate(states_after(network, (3, 31), ClusterSums(), count, given=given)):
                letters = ClusterSums().letters((3, 31), state)
                self.assertTrue(is_data(state) and is_data(tuple(letters)))
                self.assertEqual(len(letters), network.degree(node))


class ClusterNetworkTest(unittest.TestCase):
    def test_against_the_words(self):
        for network in many() + [complete(7), ring(20), tangled(9, 30, 3)]:
            for bounds in bounds_for(network):
                outputs = run(network, bounds, Clusters())
                before = list(outputs)
                found = cluster_network(network, outputs)
                rulers = [ruler for ruler, far, _ in outputs if far == 0]
                self.assertEqual(found.names(), rulers)
                for at, ruler in enumerate(rulers):
                    near = {
                        outputs[other][0] for node in range(network.size()) if outputs[node][0] == ruler
                        for other in network.neighbors(node)
                    }
                    self.assertEqual([rulers[other] for other in found.neighbors(at)], sorted(near - {ruler}))
                self.assertEqual(outputs, before)

    def test_by_hand(self):
        # The clusters are 7 with 8, 3 with 5 and 6, and 1 with 2, along a path.
        network = renamed(path(7), [8, 7, 5, 3, 6, 2, 1])
        outputs = [(7, 1, 0), (7, 0, -1), (3, 1, 1), (3, 0, -1), (3, 1, 0), (1, 1, 1), (1, 0, -1)]
        found = cluster_network(network, outputs)
        self.assertEqual(found.names(), [7, 3, 1])
        self.assertEqual([found.neighbors(node) for node in range(3)], [[1], [2, 0], [1]])

    def test_neighbors_by_names(self):
        network = renamed(star(5), [20, 9, 3, 30, 5])
        outputs = [(9, 1, 0), (9, 0, -1), (3, 0, -1), (30, 0, -1), (5, 0, -1)]
        found = cluster_network(network, outputs)
        self.assertEqual(found.names(), [9, 3, 30, 5])
        self.assertEqual(found.neighbors(0), [1, 3, 2])

    def test_one_cluster_and_parts(self):
        found = cluster_network(path(2), [(0, 0, -1), (0, 1, 0)])
        self.assertEqual((found.names(), found.neighbors(0)), ([0], []))
        network = Network([4, 2, 9], [[], [2], [1]])
        found = cluster_network(network, [(4, 0, -1), (2, 0, -1), (2, 1, 0)])
        self.assertEqual((found.names(), found.links()), ([4, 2], []))


if __name__ == "__main__":
    unittest.main()
