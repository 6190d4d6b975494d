import itertools
import unittest

from nearby.building import grid, path, renamed, ring, star
from nearby.network import Network, bounds_of, distances
from nearby.ruling import Clusters, ClustersFromRulers, Rulers, are_clusters, are_rulers
from nearby.running import run, states_after
from tests.helpers import bounds_for, changed, complete, is_data, many, outputs_of, samples, scattered


def digits(names):
    """The number B for names less than a number."""
    return max(1, len(bin(names - 1)) - 2) if names > 1 else 1


def bits(name, count):
    """The binary digits of a name, the lowest one first."""
    return [name // 2 ** place % 2 for place in range(count)]


def rulers_by_words(network, bounds):
    """The set after one round for each bit."""
    count = digits(bounds[1])
    told = [bits(name, count) for name in network.names()]
    kept = set(range(network.size()))
    for place in range(count):
        leaving = set()
        for node in kept:
            for other in kept & set(network.neighbors(node)):
                if told[node][place] == 1 and told[other][place] == 0 and told[node][place + 1:] == told[other][place + 1:]:
                    leaving.add(node)
        kept -= leaving
    return [1 if node in kept else 0 for node in range(network.size())]


def clusters_by_words(network, rulers):
    """The clusters by the distances alone, or None if a node has no ruler."""
    names = network.names()
    places = []
    for node in range(network.size()):
        away = distances(network, node)
        places.append(min(
            ((away[other], names[other]) for other in range(network.size()) if rulers[other] and away[other] is not None),
            default=None,
        ))
    if None in places:
        return None
    clusters = []
    for node, (distance, ruler) in enumerate(places):
        near = [places[other] for other in network.neighbors(node)]
        clusters.append((ruler, distance, near.index((distance - 1, ruler)) if distance else -1))
    return clusters


class RulersTest(unittest.TestCase):
    def test_against_rounds(self):
        for network in many() + [complete(7), renamed(grid(4, 4), [node * 37 % 64 for node in range(16)])]:
            for bounds in bounds_for(network) + [(6, 128), (6, 129), (6, 100000)]:
                if bounds[1] >= bounds_of(network)[1]:
                    outputs = outputs_of(network, bounds, Rulers())
                    self.assertEqual(outputs, rulers_by_words(network, bounds))
                    self.assertIs(are_rulers(network, outputs, digits(bounds[1])), True)

    def test_rounds_and_named(self):
        self.assertIs(Rulers().named, True)
        for names, rounds in [
            (1, 1), (2, 1), (3, 2), (4, 2), (5, 3), (8, 3), (9, 4), (64, 6), (65, 7), (65536, 16), (65537, 17),
            (100000, 17),
        ]:
            for degree in [1, 5]:
                self.assertEqual(Rulers().rounds((degree, names)), rounds)
                self.assertEqual(ClustersFromRulers().rounds((degree, names)), rounds)
                self.assertEqual(Clusters().rounds((degree, names)), 2 * rounds)

    def test_by_hand(self):
        # Bit 0: 1 gives way to 0, and 3 to 2. Bit 1: 2 has no neighbor in the set but those that left.
        self.assertEqual(run(path(4), (2, 4), Rulers()), [1, 0, 1, 0])
        # Bit 0: 3 gives way to 2. Bit 1: 2 gives way to 0.
        self.assertEqual(run(renamed(path(3), [0, 2, 3]), (2, 4), Rulers()), [1, 0, 0])
        # Bit 0 of 5 is 1, but 4 does not stand beside it; 2 and 5 differ in bit 2 in the end.
        self.assertEqual(run(renamed(path(3), [5, 2, 4]), (2, 6), Rulers()), [0, 1, 0])
        self.assertEqual(run(complete(4), (3, 4), Rulers()), [1, 0, 0, 0])

    def test_greatest_names(self):
        # With M = 5 the name 4 needs a third round; with M = 4 two rounds are enough.
        self.assertEqual(run(renamed(path(2), [4, 0]), (1, 5), Rulers()), [0, 1])
        self.assertEqual(run(renamed(path(2), [3, 0]), (1, 4), Rulers()), [0, 1])
        self.assertEqual(run(renamed(path(2), [64, 3]), (1, 65), Rulers()), [0, 1])

    def test_a_node_alone(self):
        self.assertEqual(outputs_of(path(1), (1, 1), Rulers()), [1])
        self.assertEqual(outputs_of(renamed(path(1), [7]), (3, 8), Rulers()), [1])
        self.assertEqual(outputs_of(path(1), (1, 1), Clusters()), [(0, 0, -1)])
        self.assertEqual(outputs_of(renamed(path(1), [7]), (1, 9), ClustersFromRulers(), [1]), [(7, 0, -1)])


class AreRulersTest(unittest.TestCase):
    def test_the_reach(self):
        self.assertIs(are_rulers(path(7), [1, 0, 0, 0, 0, 0, 1], 3), True)
        self.assertIs(are_rulers(path(7), [1, 0, 0, 0, 0, 0, 1], 2), False)
        self.assertIs(are_rulers(path(7), [1, 0, 0, 0, 0, 0, 0], 6), True)
        self.assertIs(are_rulers(path(7), [1, 0, 0, 0, 0, 0, 0], 5), False)
        self.assertIs(are_rulers(path(1), [1], 0), True)
        self.assertIs(are_rulers(path(1), [0], 5), False)
        self.assertIs(are_rulers(path(2), [1, 0], 0), False)
        self.assertIs(are_rulers(Network([4, 1], [[], []]), [1, 1], 0), True)
        self.assertIs(are_rulers(Network([4, 1], [[], []]), [1, 0], 9), False)

    def test_two_neighbors_in_the_set(self):
        self.assertIs(are_rulers(path(4), [1, 1, 0, 0], 2), False)
        self.assertIs(are_rulers(path(4), [1, 0, 0, 1], 1), True)
        self.assertIs(are_rulers(ring(4), [1, 0, 0, 1], 1), False)

    def test_all_lists_on_small_networks(self):
        for network in samples():
            if network.size() <= 6:
                away = [distances(network, node) for node in range(network.size())]
                for outputs in itertools.product([0, 1], repeat=network.size()):
                    ones = [node for node, output in enumerate(outputs) if output]
                    apart = all(away[node][other] != 1 for node in ones for other in ones)
                    for reach in range(4):
                        near = all(any(row[other] in range(reach + 1) for other in ones) for row in away)
                        self.assertIs(are_rulers(network, list(outputs), reach), apart and near)

    def test_other_numbers_and_wrong_lengths(self):
        rulers = [1, 0, 0, 1, 0]
        self.assertIs(are_rulers(path(5), rulers, 1), True)
        for node in range(5):
            for number in [-1, 2, 5]:
                self.assertIs(are_rulers(path(5), changed(rulers, node, number), 4), False)
        for row in [rulers[:-1], rulers + [0], rulers + [1], []]:
            self.assertIs(are_rulers(path(5), row, 4), False)
        self.assertEqual(rulers, [1, 0, 0, 1, 0])


class ClustersTest(unittest.TestCase):
    def test_from_rulers(self):
        for network in many():
            for bounds in bounds_for(network):
                rulers = run(network, bounds, Rulers())
                outputs = outputs_of(network, bounds, ClustersFromRulers(), rulers)
                self.assertEqual(outputs, clusters_by_words(network, rulers))
                self.assertIs(are_clusters(network, outputs, digits(bounds[1])), True)

    def test_from_other_rulers(self):
        for network in samples():
            bounds = (6, 1000)
            if network.size() <= 7:
                for rulers in itertools.product([0, 1], repeat=network.size()):
                    expected = clusters_by_words(network, rulers)
                    if expected is not None:
                        self.assertEqual(run(network, bounds, ClustersFromRulers(), given=list(rulers)), expected)

    def test_the_least_name_at_the_same_distance(self):
        for names in [[3, 9, 4], [4, 9, 3]]:
            network = renamed(path(3), names)
            port = names.index(3) // 2
            self.assertEqual(run(network, (2, 10), ClustersFromRulers(), given=[1, 0, 1])[1], (3, 1, port))
        # The ruler with the lesser name lies farther from 2 than the other one.
        network = renamed(path(4), [1, 7, 5, 9])
        self.assertEqual(run(network, (2, 10), ClustersFromRulers(), given=[1, 0, 0, 1])[1:3], [(1, 1, 0), (9, 1, 1)])

    def test_the_least_port_that_fits(self):
        # 3 stands between 1 and 2, which both have the ruler 0.
        for row, port in [([1, 2], 0), ([2, 1], 0)]:
            network = Network([0, 1, 2, 3], [[1, 2], [3, 0], [0, 3], row])
            outputs = run(network, (2, 4), ClustersFromRulers(), given=[1, 0, 0, 0])
            self.assertEqual(outputs, [(0, 0, -1), (0, 1, 1), (0, 1, 0), (0, 2, port)])
        # Port 0 leads to the cluster of a greater name, and to a node that is no nearer.
        network = Network([0, 1, 2, 3, 4], [[2], [3], [0, 4], [1, 4], [3, 2]])
        self.assertEqual(run(network, (2, 5), ClustersFromRulers(), given=[1, 1, 0, 0, 0])[4], (0, 2, 1))

    def test_the_number_of_rounds_is_needed(self):
        # Three rounds reach the distance 3, and not more are made.
        self.assertEqual(run(path(5), (2, 5), ClustersFromRulers(), given=[1, 0, 0, 0, 1])[2], (0, 2, 0))
        states = states_after(path(4), (2, 5), ClustersFromRulers(), 3, given=[1, 0, 0, 0])
        self.assertEqual(ClustersFromRulers().output((2, 5), states[3]), (0, 3, 0))

    def test_clusters_is_rulers_and_then_the_clusters(self):
        self.assertIs(ClustersFromRulers().named, True)
        self.assertIs(Clusters().named, True)
        for network in many() + [complete(6), star(7)]:
            for bounds in bounds_for(network):
                outputs = outputs_of(network, bounds, Clusters())
                self.assertEqual(outputs, clusters_by_words(network, rulers_by_words(network, bounds)))
                self.assertTrue(all(type(place) is tuple for place in outputs))

    def test_states_and_letters_are_data(self):
        network = scattered()
        for algorithm in [Rulers(), ClustersFromRulers(), Clusters()]:
            for count in range(algorithm.rounds((3, 31)) + 1):
                states = states_after(network, (3, 31), algorithm, count, given=[1, 0, 1, 0, 1, 0, 0])
                for node, state in enumerate(states):
                    letters = algorithm.letters((3, 31), state)
                    self.assertTrue(is_data(state) and is_data(tuple(letters)))
                    self.assertEqual(len(letters), network.degree(node))


class AreClustersTest(unittest.TestCase):
    def test_clusters(self):
        clusters = [(0, 0, -1), (0, 1, 0), (4, 2, 1), (4, 1, 1), (4, 0, -1)]
        for reach, right in [(5, True), (2, True), (1, False), (0, False), (-1, False)]:
            self.assertIs(are_clusters(path(5), clusters, reach), right)
        self.assertIs(are_clusters(path(1), [(0, 0, -1)], 0), True)
        self.assertIs(are_clusters(path(2), [(0, 0, -1), (0, 1, 0)], 0), False)

    def test_neither_the_nearest_ruler_nor_the_least_port_is_asked(self):
        self.assertIs(are_clusters(path(4), [(0, 0, -1), (0, 1, 0), (0, 2, 0), (3, 0, -1)], 2), True)
        self.assertIs(are_clusters(ring(4), [(0, 0, -1), (0, 1, 0), (0, 2, 1), (0, 1, 1)], 2), True)

    def test_one_tuple_changed(self):
        network = scattered()
        clusters = run(network, bounds_of(network), Clusters())
        self.assertIs(are_clusters(network, clusters, 5), True)
        for node, (ruler, distance, port) in enumerate(clusters):
            for other in [ruler + 1, -1, 12, 0, 30]:
                if other != ruler:
                    self.assertIs(are_clusters(network, changed(clusters, node, (other, distance, port)), 5), False)
            for other in [distance + 1, distance - 1, -1, 5]:
                if other != distance:
                    self.assertIs(are_clusters(network, changed(clusters, node, (ruler, other, port)), 9), False)
            for other in [-2, -3, 3, 4]:
                self.assertIs(are_clusters(network, changed(clusters, node, (ruler, distance, other)), 5), False)
            if port == -1 and network.degree(node):
                self.assertIs(are_clusters(network, changed(clusters, node, (ruler, distance, 0)), 5), False)
            if port != -1:
                self.assertIs(are_clusters(network, changed(clusters, node, (ruler, distance, -1)), 5), False)

    def test_a_port_that_leads_elsewhere(self):
        clusters = [(0, 0, -1), (0, 1, 0), (0, 2, 0)]
        self.assertIs(are_clusters(path(3), clusters, 2), True)
        self.assertIs(are_clusters(path(3), changed(clusters, 1, (0, 1, 1)), 2), False)

    def test_another_form(self):
        clusters = [(0, 0, -1), (0, 1, 0)]
        self.assertIs(are_clusters(path(2), clusters, 1), True)
        for place in [(), (0,), (0, 1), (0, 1, 0, 0)]:
            self.assertIs(are_clusters(path(2), [(0, 0, -1), place], 1), False)
        self.assertIs(are_clusters(path(2), [(0, 0), (1, 0, -1)], 1), False)

    def test_wrong_lengths(self):
        for network in samples():
            clusters = run(network, bounds_of(network), Clusters())
            self.assertIs(are_clusters(network, clusters, 9), True)
            for row in [clusters[:-1], clusters + clusters[:1], clusters + [(0, 0, -1)], []]:
                self.assertIs(are_clusters(network, row, 9), False)


if __name__ == "__main__":
    unittest.main()
