import itertools
import unittest

from nearby.balls import ball_of, output_in_ball, output_in_view, view_of
from nearby.building import grid, path, renamed, ring, star
from nearby.coloring import Colors, is_coloring
from nearby.cuts import Cut, CutFromColors, cut_links
from nearby.network import Network, bounds_of
from nearby.running import run, states_after
from tests.helpers import bounds_for, complete, is_data, many, outputs_of, samples, scattered, tangled


def cut_by_words(network, bounds, colors):
    """The numbers that the nodes choose, color by color."""
    chosen = {}
    for color in range(bounds[0] + 1):
        new = {}
        for node in range(network.size()):
            if colors[node] == color:
                near = [chosen[other] for other in network.neighbors(node) if other in chosen]
                new[node] = 1 if near.count(1) < near.count(0) else 0
        chosen.update(new)
    return [chosen[node] for node in range(network.size())]


def colorings(network, count):
    for colors in itertools.product(range(count), repeat=network.size()):
        if is_coloring(network, list(colors), count):
            yield list(colors)


class CutFromColorsTest(unittest.TestCase):
    def check(self, network, bounds, colors):
        before = list(colors)
        outputs = outputs_of(network, bounds, CutFromColors(), colors)
        self.assertEqual(outputs, cut_by_words(network, bounds, colors))
        self.assertGreaterEqual(2 * cut_links(network, outputs), len(network.links()))
        self.assertEqual(colors, before)
        return outputs

    def test_all_colorings_of_small_networks(self):
        for network in [path(1), path(4), ring(4), ring(5), star(4), complete(4), Network([4, 2, 9], [[], [2], [1]])]:
            degree, names = bounds_of(network)
            for bounds in [(degree, names), (degree + 1, names)]:
                for colors in colorings(network, bounds[0] + 1):
                    self.check(network, bounds, colors)

    def test_greater_networks(self):
        for network in many() + [complete(7), tangled(7, 30, 6), renamed(grid(5, 6), list(range(29, -1, -1)))]:
            for bounds in bounds_for(network):
                self.check(network, bounds, run(network, bounds, Colors()))

    def test_by_hand(self):
        # The center sees 0 and 1, as many of both, and takes 0.
        self.assertEqual(self.check(path(5), (2, 5), [0, 1, 2, 1, 0]), [0, 1, 0, 1, 0])
        network = path(4)
        self.assertEqual(self.check(network, (2, 4), [0, 1, 2, 0]), [0, 1, 0, 0])
        self.assertEqual(self.check(star(4), (3, 4), [3, 0, 1, 2]), [1, 0, 0, 0])
        self.assertEqual(self.check(ring(3), (2, 3), [2, 0, 1]), [0, 0, 1])
        self.assertEqual(self.check(path(1), (1, 1), [1]), [0])

    def test_rounds_and_named(self):
        self.assertIs(CutFromColors().named, False)
        for bounds in [(1, 1), (3, 9), (6, 100000)]:
            self.assertEqual(CutFromColors().rounds(bounds), bounds[0] + 1)

    def test_in_balls_and_views(self):
        for network in samples():
            bounds = bounds_of(network)
            colors = run(network, bounds, Colors())
            outputs = self.check(network, bounds, colors)
            for node in range(network.size()):
                for look, follow in [(ball_of, output_in_ball), (view_of, output_in_view)]:
                    seen = look(network, node, bounds[0] + 1, given=colors)
                    self.assertEqual(follow(seen, bounds, CutFromColors()), outputs[node])


class CutTest(unittest.TestCase):
    def test_colors_and_then_a_cut(self):
        for network in many() + [complete(7)]:
            for bounds in bounds_for(network):
                outputs = outputs_of(network, bounds, Cut())
                self.assertEqual(outputs, cut_by_words(network, bounds, run(network, bounds, Colors())))
                self.assertGreaterEqual(2 * cut_links(network, outputs), len(network.links()))

    def test_rounds_and_named(self):
        self.assertIs(Cut().named, True)
        for bounds in [(1, 1), (2, 30), (3, 100000)]:
            self.assertEqual(Cut().rounds(bounds), Colors().rounds(bounds) + bounds[0] + 1)

    def test_a_node_alone(self):
        self.assertEqual(outputs_of(path(1), (1, 1), Cut()), [0])
        self.assertEqual(outputs_of(Network([4, 2, 9], [[], [], []]), (2, 10), Cut()), [0, 0, 0])

    def test_states_and_letters_are_data(self):
        network = scattered()
        for algorithm in [Cut(), CutFromColors()]:
            for count in range(algorithm.rounds((3, 31)) + 1):
                states = states_after(network, (3, 31), algorithm, count, given=[0, 1, 0, 2, 0, 0, 1])
                for node, state in enumerate(states):
                    letters = algorithm.letters((3, 31), state)
                    self.assertTrue(is_data(state) and is_data(tuple(letters)))
                    self.assertEqual(len(letters), network.degree(node))


class CutLinksTest(unittest.TestCase):
    def test_all_lists_on_small_networks(self):
        for network in [path(1), path(4), ring(5), star(4), complete(4), Network([4, 2, 9], [[], [2], [1]])]:
            for outputs in itertools.product([0, 1], repeat=network.size()):
                count = 0
                for node in range(network.size()):
                    count += sum(outputs[node] < outputs[other] for other in network.neighbors(node))
                self.assertEqual(cut_links(network, list(outputs)), count)

    def test_by_hand(self):
        outputs = [0, 1, 1, 0]
        self.assertEqual(cut_links(path(4), outputs), 2)
        self.assertEqual(cut_links(ring(4), outputs), 2)
        self.assertEqual(cut_links(ring(4), [0, 1, 0, 1]), 4)
        self.assertEqual(cut_links(path(4), [1, 1, 1, 1]), 0)
        self.assertEqual(outputs, [0, 1, 1, 0])


if __name__ == "__main__":
    unittest.main()
