import itertools
import unittest

from nearby.building import grid, path, ring, star, turned
from nearby.coloring import Colors
from nearby.matching import CoverByMatching, Matching, MatchingFromColors, NamelessCover, is_matching, is_maximal_matching
from nearby.network import Network, bounds_of
from nearby.running import run, states_after
from nearby.sets import is_cover
from tests.helpers import bounds_for, changed, complete, crooked_grid, is_data, many, outputs_of, ports_of, samples
from tests.helpers import scattered


def matched_by_words(network, bounds, colors):
    """The matching after the offers and answers for each color and port."""
    matched = [-1] * network.size()
    for color in range(bounds[0] + 1):
        for port in range(bounds[0]):
            offers = [
                (network.neighbors(node)[port], network.far_port(node, port), node) for node in range(network.size())
                if colors[node] == color and network.degree(node) > port and matched[node] == -1
            ]
            for taker in sorted({offer[0] for offer in offers if matched[offer[0]] == -1}):
                _, taken, node = min(offer for offer in offers if offer[0] == taker)
                matched[taker], matched[node] = taken, port
    return matched


def sides_by_words(network, bounds):
    """The outputs of the cover without names, from sets of the matched sides."""
    white, black = set(), set()
    for port in range(bounds[0]):
        offers = [
            (network.neighbors(node)[port], network.far_port(node, port), node) for node in range(network.size())
            if network.degree(node) > port and node not in white
        ]
        new = []
        for taker in {offer[0] for offer in offers if offer[0] not in black}:
            new.append(min(offer for offer in offers if offer[0] == taker))
        white |= {node for _, _, node in new}
        black |= {taker for taker, _, _ in new}
    return [1 if node in white | black else 0 for node in range(network.size())]


def least_cover_by_words(network):
    links = network.links()
    for count in range(network.size() + 1):
        for nodes in itertools.combinations(range(network.size()), count):
            if all(node in nodes or other in nodes for node, other in links):
                return count


class ChecksTest(unittest.TestCase):
    def is_matching_by_words(self, network, outputs):
        for node, output in enumerate(outputs):
            if output != -1:
                if output not in range(network.degree(node)):
                    return False
                if outputs[network.neighbors(node)[output]] != network.far_port(node, output):
                    return False
        return True

    def test_all_lists_on_small_networks(self):
        for network in [path(1), path(2), path(4), ring(3), star(4), grid(2, 2), Network([3, 1], [[], []])]:
            most = max(network.degree(node) for node in range(network.size()))
            found = 0
            for outputs in itertools.product(range(-2, most + 1), repeat=network.size()):
                right = self.is_matching_by_words(network, outputs)
                maximal = right and all(outputs[node] + outputs[other] > -2 for node, other in network.links())
                self.assertIs(is_matching(network, list(outputs)), right)
                self.assertIs(is_maximal_matching(network, list(outputs)), maximal)
                found += maximal
            self.assertGreater(found, 0)

    def test_by_hand(self):
        network = path(4)
        self.assertIs(is_matching(network, [-1, 1, 0, -1]), True)
        self.assertIs(is_maximal_matching(network, [-1, 1, 0, -1]), True)
        self.assertIs(is_maximal_matching(network, [0, 0, 1, 0]), True)
        self.assertIs(is_matching(network, [0, 0, -1, -1]), True)
        self.assertIs(is_maximal_matching(network, [0, 0, -1, -1]), False)
        self.assertIs(is_matching(network, [-1, -1, -1, -1]), True)
        self.assertIs(is_maximal_matching(network, [-1, -1, -1, -1]), False)
        self.assertIs(is_matching(network, [0, 1, 0, -1]), False)
        self.assertIs(is_maximal_matching(path(1), [-1]), True)
        self.assertIs(is_matching(path(1), [0]), False)

    def test_one_port_changed(self):
        network = crooked_grid()
        bounds = bounds_of(network)
        matching = run(network, bounds, Matching())
        self.assertIs(is_maximal_matching(network, matching), True)
        for node in range(network.size()):
            for port in [-2, -3, -1, 0, 1, 2, 3, 4, 9]:
                row = changed(matching, node, port)
                if row != matching:
                    self.assertIs(is_matching(network, row), self.is_matching_by_words(network, row))
                    self.assertIs(is_maximal_matching(network, row), False)

    def test_ports_that_there_are_not(self):
        # -2 would lead to the same neighbor as a port from the other end of the list.
        self.assertIs(is_matching(path(3), [0, -2, -1]), False)
        self.assertIs(is_matching(path(2), [-2, 0]), False)
        self.assertIs(is_matching(path(2), [-2, -2]), False)
        self.assertIs(is_matching(path(2), [1, 0]), False)
        self.assertIs(is_matching(path(2), [1, 1]), False)
        self.assertIs(is_matching(ring(4), [2, 2, 2, 2]), False)

    def test_wrong_lengths(self):
        for network in samples():
            matching = run(network, bounds_of(network), Matching())
            for check in [is_matching, is_maximal_matching]:
                self.assertIs(check(network, matching), True)
                self.assertIs(check(network, matching[:-1]), False)
                self.assertIs(check(network, matching + [-1]), False)
                self.assertIs(check(network, []), False)
            self.assertIs(is_matching(network, [-1] * network.size()), True)
            self.assertIs(is_matching(network, [-1] * (network.size() + 1)), False)

    def test_nothing_is_modified(self):
        outputs = [0, 0, -1, -1]
        is_maximal_matching(path(4), outputs)
        self.assertEqual(outputs, [0, 0, -1, -1])


class MatchingTest(unittest.TestCase):
    def test_from_colors_against_offers(self):
        for network in many():
            for bounds in bounds_for(network):
                colors = run(network, bounds, Colors())
                for given in [colors, [bounds[0] - color for color in colors]]:
                    outputs = outputs_of(network, bounds, MatchingFromColors(), given)
                    self.assertEqual(outputs, matched_by_words(network, bounds, given))
                    self.assertIs(is_maximal_matching(network, outputs), True)

    def test_the_least_port_of_several_offers(self):
        # All leaves have the color 0 and make their offers to the center at once.
        for order in [[0, 1, 2, 3], [3, 1, 0, 2], [2, 3, 1, 0]]:
            network = turned(star(5), [order, [0], [0], [0], [0]])
            outputs = run(network, (4, 5), MatchingFromColors(), given=[1, 0, 0, 0, 0])
            leaf = order[0] + 1
            self.assertEqual(outputs, [0] + [0 if node == leaf else -1 for node in range(1, 5)])

    def test_by_hand(self):
        # 1 has the color 0 and offers to 0 first; then 2, with the color 1, offers to 1 in vain, and then to 3.
        self.assertEqual(run(path(4), (2, 4), MatchingFromColors(), given=[1, 0, 1, 2]), [0, 0, 1, 0])
        # 2 has the color 0 and offers to 1; then 0 and 3 find no node that is not matched.
        self.assertEqual(run(path(4), (2, 4), MatchingFromColors(), given=[1, 2, 0, 1]), [-1, 1, 0, -1])

    def test_the_colors_go_one_after_the_other(self):
        # 0 and 1 offer to 2, which takes 1. Then 0 offers to 3 by its port 1, before 4 with the color 1 does so.
        network = Network([0, 1, 2, 3, 4], [[2, 3], [2], [1, 0], [4, 0], [3]])
        self.assertEqual(run(network, (2, 5), MatchingFromColors(), given=[0, 0, 1, 2, 1]), [1, 0, 0, 1, -1])

    def test_rounds_and_named(self):
        self.assertIs(MatchingFromColors().named, False)
        self.assertIs(Matching().named, True)
        self.assertIs(CoverByMatching().named, True)
        for bounds, rounds in [((1, 1), 4), ((2, 50), 12), ((6, 100000), 84)]:
            self.assertEqual(MatchingFromColors().rounds(bounds), rounds)
            self.assertEqual(Matching().rounds(bounds), Colors().rounds(bounds) + rounds)
            self.assertEqual(CoverByMatching().rounds(bounds), Colors().rounds(bounds) + rounds)

    def test_matching_is_colors_and_then_the_matching(self):
        for network in many():
            for bounds in bounds_for(network)[:3]:
                outputs = outputs_of(network, bounds, Matching())
                self.assertEqual(outputs, matched_by_words(network, bounds, run(network, bounds, Colors())))
                self.assertIs(is_maximal_matching(network, outputs), True)

    def test_cover_by_matching(self):
        for network in many():
            for bounds in bounds_for(network)[:3]:
                matching = run(network, bounds, Matching())
                outputs = outputs_of(network, bounds, CoverByMatching())
                self.assertEqual(outputs, [0 if port == -1 else 1 for port in matching])
                self.assertIs(is_cover(network, outputs), True)
                if network.size() <= 12:
                    self.assertLessEqual(sum(outputs), 2 * least_cover_by_words(network))

    def test_a_node_alone(self):
        for color in [0, 1]:
            self.assertEqual(outputs_of(path(1), (1, 1), MatchingFromColors(), [color]), [-1])
        self.assertEqual(outputs_of(path(1), (1, 1), Matching()), [-1])
        self.assertEqual(outputs_of(path(1), (3, 9), CoverByMatching()), [0])
        self.assertEqual(outputs_of(path(1), (2, 1), NamelessCover()), [0])

    def test_states_and_letters_are_data(self):
        network = scattered()
        for algorithm in [MatchingFromColors(), Matching(), CoverByMatching(), NamelessCover()]:
            for count in range(algorithm.rounds((3, 31)) + 1):
                states = states_after(network, (3, 31), algorithm, count, given=[0, 1, 0, 2, 0, 0, 1])
                for node, state in enumerate(states):
                    letters = algorithm.letters((3, 31), state)
                    self.assertTrue(is_data(state) and is_data(tuple(letters)))
                    self.assertEqual(len(letters), network.degree(node))


class NamelessCoverTest(unittest.TestCase):
    def test_against_offers(self):
        for network in many() + [complete(5), turned(ring(5), [[1, 0], [0, 1], [1, 0], [1, 0], [0, 1]])]:
            for bounds in bounds_for(network):
                outputs = outputs_of(network, bounds, NamelessCover())
                self.assertEqual(outputs, sides_by_words(network, bounds))
                self.assertIs(is_cover(network, outputs), True)
                if network.size() <= 12:
                    self.assertLessEqual(sum(outputs), 3 * least_cover_by_words(network))

    def test_by_hand(self):
        self.assertEqual(run(path(2), (1, 2), NamelessCover()), [1, 1])
        # The white sides of 0 and 2 offer to 1, which takes 0; 1 offers to 0. Then 2 has no other port.
        self.assertEqual(run(path(3), (2, 3), NamelessCover()), [1, 1, 0])
        # The center takes leaf 1, and offers to it.
        self.assertEqual(run(star(4), (3, 4), NamelessCover()), [1, 1, 0, 0])
        # The center's port 0 leads to leaf 3.
        network = turned(star(4), [[2, 0, 1], [0], [0], [0]])
        self.assertEqual(run(network, (3, 4), NamelessCover()), [1, 0, 0, 1])

    def test_the_sides_of_a_node_are_matched_by_themselves(self):
        # Each node's white side is matched to the black side of the next one.
        one_way = Network([0, 1, 2], [[1, 2], [2, 0], [0, 1]])
        self.assertEqual(run(one_way, (2, 3), NamelessCover()), [1, 1, 1])

    def test_rounds_and_named(self):
        self.assertIs(NamelessCover().named, False)
        for degree in [1, 2, 6]:
            self.assertEqual(NamelessCover().rounds((degree, 70)), 2 * degree)

    def test_it_does_not_matter_what_the_names_are(self):
        network = grid(3, 3)
        crooked = crooked_grid()
        named = Network(list(range(9)), [[other for _, other in ports_of(crooked, node)] for node in range(9)])
        self.assertEqual(run(named, (4, 50), NamelessCover()), run(crooked, (4, 50), NamelessCover()))
        self.assertIs(is_cover(network, run(network, (4, 9), NamelessCover())), True)


if __name__ == "__main__":
    unittest.main()
