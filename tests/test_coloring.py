import unittest

from nearby.building import path, renamed, ring, star
from nearby.coloring import Colors, Fewer, Shrink, is_coloring
from nearby.network import Network, bounds_of
from nearby.palettes import palettes, shrunk, step_of
from nearby.running import run, states_after
from tests.helpers import bounds_for, changed, complete, is_data, many, outputs_of, samples, scattered


def colors_near(network, colors, node):
    return [colors[other] for other in network.neighbors(node)]


def shrunk_by_words(network, bounds):
    """The colors after one round for each palette but the first."""
    colors = network.names()
    for palette in palettes(bounds)[:-1]:
        step = step_of(bounds[0], palette)
        colors = [shrunk(color, colors_near(network, colors, node), step) for node, color in enumerate(colors)]
    return colors


def fewer_by_words(network, bounds, colors, count):
    """The colors after one round for each color above D, the greatest one first."""
    colors = list(colors)
    for greatest in range(count - 1, bounds[0], -1):
        old = list(colors)
        for node in range(network.size()):
            if old[node] == greatest:
                near = colors_near(network, old, node)
                colors[node] = min(color for color in range(bounds[0] + 1) if color not in near)
    return colors


class IsColoringTest(unittest.TestCase):
    def test_colorings(self):
        network = scattered()
        self.assertIs(is_coloring(network, [0, 1, 0, 2, 0, 0, 1], 3), True)
        self.assertIs(is_coloring(network, [0, 1, 5, 2, 0, 0, 1], 6), True)
        self.assertIs(is_coloring(path(1), [0], 1), True)
        self.assertIs(is_coloring(Network([3, 1], [[], []]), [0, 0], 1), True)
        self.assertIs(is_coloring(ring(4), [1, 0, 1, 0], 2), True)

    def test_two_neighbors_of_one_color(self):
        network = scattered()
        for node, other in network.links():
            colors = changed(changed(list(range(7)), node, 7), other, 7)
            self.assertIs(is_coloring(network, colors, 8), False)
            self.assertIs(is_coloring(network, changed(colors, other, 8), 9), True)

    def test_numbers_that_are_no_colors(self):
        network = scattered()
        for node in range(7):
            for color, valid in [(-1, False), (9, False), (8, True), (10, False), (-9, False)]:
                self.assertIs(is_coloring(network, changed(list(range(7)), node, color), 9), valid)
        self.assertIs(is_coloring(path(1), [1], 1), False)
        self.assertIs(is_coloring(path(1), [-1], 1), False)

    def test_wrong_lengths(self):
        for network in samples():
            colors = list(range(network.size()))
            self.assertIs(is_coloring(network, colors, 100), True)
            self.assertIs(is_coloring(network, colors[:-1], 100), False)
            self.assertIs(is_coloring(network, colors + [50], 100), False)
            self.assertIs(is_coloring(network, [], 100), False)

    def test_nothing_is_modified(self):
        colors = [1, 0, 1]
        self.assertIs(is_coloring(path(3), colors, 2), True)
        self.assertEqual(colors, [1, 0, 1])


class ShrinkTest(unittest.TestCase):
    def test_against_rounds(self):
        for network in many():
            for bounds in bounds_for(network) + [(1, 9), (2, 30), (6, 100000), (2, 100000), (4, 10 ** 9)]:
                if bounds[0] >= bounds_of(network)[0] and bounds[1] >= bounds_of(network)[1]:
                    outputs = outputs_of(network, bounds, Shrink())
                    self.assertEqual(outputs, shrunk_by_words(network, bounds))
                    self.assertTrue(is_coloring(network, outputs, palettes(bounds)[-1]))

    def test_by_hand(self):
        # D = 1 and M = 10 have the step (3, 2): 5 is 2 + x and 8 is 2 + 2 x, which differ first at 1 modulo 3.
        network = renamed(path(2), [5, 8])
        self.assertEqual(palettes((1, 10)), [10, 9])
        self.assertEqual(run(network, (1, 10), Shrink()), [3 * 1 + 0, 3 * 1 + 1])
        self.assertEqual(run(renamed(path(1), [7]), (1, 10), Shrink()), [1])

    def test_rounds_and_named(self):
        self.assertIs(Shrink().named, True)
        for bounds, rounds in [((1, 1), 0), ((1, 4), 0), ((3, 100000), 2), ((1, 10), 1), ((6, 100000), 2)]:
            self.assertEqual(Shrink().rounds(bounds), rounds)
            self.assertEqual(len(palettes(bounds)) - 1, rounds)

    def test_without_rounds_the_names_are_the_colors(self):
        self.assertEqual(run(renamed(path(3), [2, 0, 1]), (2, 3), Shrink()), [2, 0, 1])


class FewerTest(unittest.TestCase):
    def test_against_rounds(self):
        for network in many():
            for bounds in bounds_for(network):
                for count in [bounds_of(network)[1], bounds_of(network)[1] + 3]:
                    outputs = outputs_of(network, bounds, Fewer(count), network.names())
                    self.assertEqual(outputs, fewer_by_words(network, bounds, network.names(), count))
                    self.assertTrue(is_coloring(network, outputs, max(bounds[0] + 1, 1)))

    def test_by_hand(self):
        # 4 sees 1 and 3 and takes 0; then 3 sees 0 and 0 and takes 1.
        network = path(5)
        self.assertEqual(run(network, (2, 9), Fewer(5), given=[1, 4, 3, 0, 2]), [1, 0, 1, 0, 2])
        # If the least color went first, 3 would see 4 and 0.
        self.assertEqual(run(network, (2, 9), Fewer(6), given=[5, 3, 4, 3, 5]), [0, 1, 0, 1, 0])

    def test_colors_that_are_few_stay(self):
        given = [2, 0, 1, 2, 1]
        for count in [3, 2, 1, 0]:
            self.assertEqual(Fewer(count).rounds((2, 5)), 0)
            self.assertEqual(outputs_of(path(5), (2, 5), Fewer(count), given), given)

    def test_rounds_and_named(self):
        self.assertIs(Fewer(3).named, False)
        for count, degree, rounds in [(10, 2, 7), (4, 2, 1), (3, 2, 0), (2, 2, 0), (1, 6, 0), (169, 6, 162)]:
            self.assertEqual(Fewer(count).rounds((degree, 50)), rounds)

    def test_a_node_alone(self):
        self.assertEqual(outputs_of(path(1), (1, 1), Fewer(9), [8]), [0])
        self.assertEqual(outputs_of(path(1), (1, 1), Fewer(9), [1]), [1])


class ColorsTest(unittest.TestCase):
    def test_shrink_and_then_fewer(self):
        for network in many():
            for bounds in bounds_for(network) + [(6, 100000)]:
                outputs = outputs_of(network, bounds, Colors())
                last = palettes(bounds)[-1]
                expected = fewer_by_words(network, bounds, shrunk_by_words(network, bounds), last)
                self.assertEqual(outputs, expected)
                self.assertTrue(is_coloring(network, outputs, bounds[0] + 1))

    def test_rounds_and_named(self):
        self.assertIs(Colors().named, True)
        for bounds in [(1, 1), (1, 2), (1, 3), (2, 3), (2, 1000), (3, 100000), (6, 100000), (6, 7), (6, 8)]:
            found = palettes(bounds)
            self.assertEqual(Colors().rounds(bounds), len(found) - 1 + max(0, found[-1] - bounds[0] - 1))
        self.assertEqual(Colors().rounds((3, 100000)), 2 + 45)

    def test_many_neighbors(self):
        for network in [complete(7), renamed(star(7), [900, 5, 70, 31, 888, 2, 41])]:
            outputs = outputs_of(network, (6, 1000), Colors())
            self.assertTrue(is_coloring(network, outputs, 7))

    def test_states_and_letters_are_data(self):
        network = scattered()
        for algorithm in [Shrink(), Fewer(31), Colors()]:
            for count in range(algorithm.rounds((3, 31)) + 1):
                states = states_after(network, (3, 31), algorithm, count, given=network.names())
                for node, state in enumerate(states):
                    self.assertTrue(is_data(state))
                    letters = algorithm.letters((3, 31), state)
                    self.assertTrue(is_data(tuple(letters)))
                    self.assertEqual(len(letters), network.degree(node))


if __name__ == "__main__":
    unittest.main()
