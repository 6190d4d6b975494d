import itertools
import random
import unittest

from nearby.balls import Gather, ball_of, output_in_ball
from nearby.building import grid, path, renamed, ring, star
from nearby.coloring import Colors
from nearby.errors import InvalidBounds, InvalidNetwork
from nearby.joining import Then
from nearby.late import run_late
from nearby.linkwork import LinkColors, OnLinks, are_link_colors, link_bounds, link_network
from nearby.network import Network, bounds_of, suits
from nearby.matching import Matching, NamelessCover
from nearby.ruling import Clusters
from nearby.running import run, states_after
from nearby.sets import Independent
from nearby.simple import Echo, Names, Quiet
from tests.helpers import (
    ByBounds, Diary, Mixed, NamedMixed, bounds_for, changed, complete, crooked_grid, is_data, many, ports_of, samples,
    scattered, tangled,
)


def at_ports(network, outputs):
    """The tuples with the output of the link at each port, for the outputs of the links in the order of links()."""
    told = dict(zip(network.links(), outputs))
    return [
        tuple(told[min(node, other), max(node, other)] for other in network.neighbors(node))
        for node in range(network.size())
    ]


def link_names(network, bounds):
    names = network.names()
    ends = [sorted([names[node], names[other]]) for node, other in network.links()]
    return [low * bounds[1] + high for low, high in ends]


class LinkNetworkTest(unittest.TestCase):
    def test_names_and_neighbors(self):
        for network in many() + [complete(7)]:
            if not network.links():
                continue
            for bounds in bounds_for(network):
                found, links, names = link_network(network, bounds), network.links(), link_names(network, bounds)
                self.assertEqual(found.names(), names)
                for at, ends in enumerate(links):
                    near = [other for other in range(len(links)) if len(set(links[other]) & set(ends)) == 1]
                    self.assertEqual(found.neighbors(at), sorted(near, key=lambda other: names[other]))

    def test_by_hand(self):
        network = renamed(path(4), [3, 9, 1, 4])
        found = link_network(network, (2, 10))
        self.assertEqual(found.names(), [39, 19, 14])
        self.assertEqual([found.neighbors(at) for at in range(3)], [[1], [2, 0], [1]])
        self.assertEqual(link_network(network, (3, 100)).names(), [309, 109, 104])
        # All links of a star have an end in common; 12 is the least name, then 13, then 24 with 2 in front.
        found = link_network(Network([2, 4, 1, 3], [[1, 3, 2], [0], [0], [0]]), (3, 10))
        self.assertEqual(found.names(), [24, 12, 23])
        self.assertEqual([found.neighbors(at) for at in range(3)], [[1, 2], [2, 0], [1, 0]])

    def test_one_link_and_a_ring(self):
        found = link_network(path(2), (1, 2))
        self.assertEqual((found.names(), found.neighbors(0)), ([1], []))
        found = link_network(ring(3), (2, 3))
        self.assertEqual((found.names(), [found.neighbors(at) for at in range(3)]), ([1, 2, 5], [[1, 2], [0, 2], [0, 1]]))

    def test_bounds(self):
        self.assertEqual([link_bounds((degree, 1))[0] for degree in [1, 2, 3, 4, 6]], [1, 2, 4, 6, 10])
        self.assertEqual([link_bounds((2, names))[1] for names in [1, 2, 10, 100000]], [1, 4, 100, 10 ** 10])
        for network in many() + [complete(7)]:
            if network.links():
                for bounds in bounds_for(network):
                    self.assertTrue(suits(link_network(network, bounds), link_bounds(bounds)))

    def test_errors_in_their_order(self):
        for network in [path(3), complete(3), scattered()]:
            degree, names = bounds_of(network)
            for bounds in [(degree - 1, names), (degree, names - 1), (degree, 1)]:
                with self.assertRaises(InvalidBounds):
                    link_network(network, bounds)
        for network in [path(1), Network([4, 2, 9], [[], [], []]), renamed(path(1), [6])]:
            with self.assertRaises(InvalidNetwork):
                link_network(network, bounds_of(network))
            if network.names() != [0]:
                with self.assertRaises(InvalidBounds):
                    link_network(network, (1, max(network.names())))


class OnLinksTest(unittest.TestCase):
    def check(self, network, bounds, algorithm):
        """The algorithm on the links and its outputs, which must be those on the link network."""
        told = OnLinks(algorithm)
        self.assertIs(told.named, True)
        self.assertEqual(told.rounds(bounds), 3 + 2 * algorithm.rounds(link_bounds(bounds)))
        expected = [()] * network.size()
        if network.links():
            outputs = run(link_network(network, bounds), link_bounds(bounds), algorithm)
            expected = at_ports(network, outputs)
        self.assertEqual(run(network, bounds, told), expected)
        return told, expected

    def test_outputs_of_named_and_nameless_algorithms(self):
        algorithms = [
            Names(2), NamedMixed(3), ByBounds(), Diary(True, 2), Gather(2), Clusters(),
            Mixed(0), Mixed(1), Mixed(4), Diary(False, 2), Echo(), Quiet((1, "a")), NamelessCover(),
            Then(NamedMixed(1), Mixed(2)),
        ]
        for network in many() + [complete(7)]:
            for bounds, algorithm in itertools.product(bounds_for(network)[:3], algorithms):
                self.check(network, bounds, algorithm)

    def test_late_runs_and_balls(self):
        choose = random.Random(6)
        for network in samples():
            bounds = bounds_of(network)
            for algorithm in [NamedMixed(2), Diary(False, 1), Echo()]:
                told, expected = self.check(network, bounds, algorithm)
                for given in [None, [(node,) for node in range(network.size())]]:
                    choices = [choose.randrange(300) for _ in range(200)]
                    self.assertEqual(run_late(network, bounds, told, choices, given=given)[0], expected)
                for node in range(network.size()):
                    ball = ball_of(network, node, told.rounds(bounds))
                    self.assertEqual(output_in_ball(ball, bounds, told), expected[node])

    def test_nodes_without_ports(self):
        outputs = run(scattered(), (3, 31), OnLinks(NamedMixed(2)))
        self.assertEqual(outputs[2], ())
        for network in [path(1), Network([4, 2, 9], [[], [], []])]:
            for algorithm in [Names(1), Colors(), Quiet(3)]:
                self.assertEqual(run(network, bounds_of(network), OnLinks(algorithm)), [()] * network.size())

    def test_links_without_neighbors(self):
        told = run(path(2), (1, 2), OnLinks(Diary(True, 2)))
        self.assertEqual(told, [(("output", (1, 4), 1, 0, None, ((), ())),)] * 2)

    def test_tasks_on_the_links(self):
        for network in [crooked_grid(), complete(5), tangled(4, 16, 6)]:
            for algorithm in [Independent(), Matching()]:
                self.check(network, bounds_of(network), algorithm)

    def test_links_of_links(self):
        network = renamed(star(4), [5, 2, 9, 0])
        bounds = bounds_of(network)
        told, _ = self.check(network, bounds, OnLinks(Names(1)))
        self.assertEqual(told.rounds(bounds), 3 + 2 * 5)

    def test_states_and_letters_are_data(self):
        network = crooked_grid()
        bounds = bounds_of(network)
        algorithm = OnLinks(Diary(True, 2))
        for count in range(algorithm.rounds(bounds) + 1):
            for node, state in enumerate(states_after(network, bounds, algorithm, count)):
                self.assertTrue(is_data(state))
                if count < algorithm.rounds(bounds):
                    letters = algorithm.letters(bounds, state)
                    self.assertEqual(len(letters), network.degree(node))
                    self.assertTrue(is_data(tuple(letters)))


def are_link_colors_by_words(network, outputs, colors):
    if len(outputs) != network.size():
        return False
    for node, row in enumerate(outputs):
        if len(row) != network.degree(node) or len(set(row)) < len(row):
            return False
        for port, other in ports_of(network, node):
            if row[port] not in range(colors) or len(outputs[other]) != network.degree(other):
                return False
            if outputs[other][network.far_port(node, port)] != row[port]:
                return False
    return True


class LinkColorsTest(unittest.TestCase):
    def test_colors(self):
        for network in many() + [complete(7)]:
            for bounds in bounds_for(network):
                outputs = run(network, bounds, LinkColors())
                most = max(1, 2 * bounds[0] - 2)
                self.assertEqual(outputs, run(network, bounds, OnLinks(Colors())))
                self.assertIs(are_link_colors(network, outputs, most + 1), True)
                self.assertIs(are_link_colors_by_words(network, outputs, most + 1), True)

    def test_rounds_and_named(self):
        self.assertIs(LinkColors().named, True)
        for bounds in [(1, 1), (1, 2), (2, 30), (3, 100), (6, 100000)]:
            self.assertEqual(LinkColors().rounds(bounds), 3 + 2 * Colors().rounds(link_bounds(bounds)))

    def test_late(self):
        network = renamed(path(4), [3, 9, 1, 4])
        outputs = run(network, (2, 10), LinkColors())
        choices = [5, 3, 8, 1, 30, 7] * 9
        self.assertEqual(run_late(network, (2, 10), LinkColors(), choices)[0], outputs)

    def test_great_names(self):
        network = renamed(grid(3, 3), [99999, 20, 3001, 0, 777, 54321, 1234, 88888, 6])
        self.assertIs(are_link_colors(network, run(network, (4, 100000), LinkColors()), 7), True)


class AreLinkColorsTest(unittest.TestCase):
    def test_by_hand(self):
        colors = [(0,), (0, 1), (1, 0), (0,)]
        self.assertIs(are_link_colors(path(4), colors, 2), True)
        self.assertIs(are_link_colors(path(4), colors, 1), False)
        self.assertIs(are_link_colors(path(4), [(0,), (0, 0), (0, 1), (1,)], 2), False)
        self.assertIs(are_link_colors(path(4), [(0,), (1, 0), (1, 0), (0,)], 2), False)
        self.assertIs(are_link_colors(path(1), [()], 1), True)
        self.assertIs(are_link_colors(path(1), [(0,)], 1), False)
        self.assertIs(are_link_colors(Network([1, 2], [[], []]), [(), ()], 0), True)

    def test_one_color_changed(self):
        for network in [crooked_grid(), scattered(), complete(5), star(6)]:
            bounds = bounds_of(network)
            outputs = run(network, bounds, LinkColors())
            colors = max(1, 2 * bounds[0] - 2) + 1
            found = set()
            for node in range(network.size()):
                for port, other in ports_of(network, node):
                    far = network.far_port(node, port)
                    for color in range(-1, colors + 1):
                        one = changed(outputs, node, outputs[node][:port] + (color,) + outputs[node][port + 1:])
                        both = changed(one, other, one[other][:far] + (color,) + one[other][far + 1:])
                        self.assertIs(are_link_colors(network, one, colors), color == outputs[node][port])
                        right = are_link_colors_by_words(network, both, colors)
                        self.assertIs(are_link_colors(network, both, colors), right)
                        found.add((color in (-1, colors), right))
            self.assertEqual(found & {(True, True)}, set())
            self.assertLessEqual({(True, False), (False, True), (False, False)}, found)

    def test_all_lists_on_small_networks(self):
        for network in [path(3), ring(3)]:
            rows = [list(itertools.product(range(-1, 3), repeat=network.degree(node))) for node in range(network.size())]
            for outputs in itertools.product(*rows):
                right = are_link_colors_by_words(network, outputs, 2)
                self.assertIs(are_link_colors(network, list(outputs), 2), right)

    def test_wrong_lengths(self):
        for network in samples():
            outputs = run(network, bounds_of(network), LinkColors())
            before = list(outputs)
            for row in [outputs[:-1], outputs + [()], outputs + [(0,)], []]:
                self.assertIs(are_link_colors(network, row, 99), False)
            for node, colors in enumerate(outputs):
                for other in [colors + (50,), colors[:-1], ()]:
                    if other != colors:
                        self.assertIs(are_link_colors(network, changed(outputs, node, other), 99), False)
            self.assertEqual(outputs, before)


if __name__ == "__main__":
    unittest.main()
