import itertools
import unittest

from nearby.balls import ball_of, output_in_ball
from nearby.building import grid, path, renamed, ring, star
from nearby.forests import Heights
from nearby.network import Network, bounds_of
from nearby.ordered import FirstIndependent, first_independent
from nearby.running import run, states_after
from nearby.sets import is_maximal_independent
from tests.helpers import bounds_for, complete, is_data, many, outputs_of, samples, scattered, tangled


def first_by_words(network):
    """The set, one node after the other in the order of their names."""
    names, chosen = network.names(), set()
    for name in sorted(names):
        node = names.index(name)
        if not chosen & set(network.neighbors(node)):
            chosen.add(node)
    return [1 if node in chosen else 0 for node in range(network.size())]


class FirstIndependentTest(unittest.TestCase):
    def test_against_the_words(self):
        for network in many() + [complete(7)]:
            found = first_independent(network)
            self.assertIs(type(found), list)
            self.assertEqual(found, first_by_words(network))
            self.assertIs(is_maximal_independent(network, found), True)

    def test_any_order_of_the_names(self):
        for network in [path(4), ring(5), star(4), grid(2, 2)]:
            for names in itertools.permutations(range(network.size())):
                moved = renamed(network, [7 * name + 2 for name in names])
                self.assertEqual(first_independent(moved), first_by_words(moved))

    def test_by_hand(self):
        self.assertEqual(first_independent(path(5)), [1, 0, 1, 0, 1])
        self.assertEqual(first_independent(renamed(path(5), [5, 3, 4, 1, 2])), [0, 1, 0, 1, 0])
        self.assertEqual(first_independent(renamed(star(4), [9, 3, 1, 4])), [0, 1, 1, 1])
        self.assertEqual(first_independent(star(4)), [1, 0, 0, 0])
        self.assertEqual(first_independent(Network([4, 2, 9], [[], [], []])), [1, 1, 1])

    def test_the_list_is_new(self):
        network = path(3)
        first_independent(network).clear()
        self.assertEqual(first_independent(network), [1, 0, 1])


class AlgorithmTest(unittest.TestCase):
    def test_every_count(self):
        for network in many() + [complete(7), tangled(6, 18, 4)]:
            right = first_by_words(network)
            heights = run(network, bounds_of(network), Heights(network.size()))
            for bounds in bounds_for(network)[:2]:
                for count in range(max(heights) + 3):
                    expected = [right[node] if height < count else -1 for node, height in enumerate(heights)]
                    self.assertEqual(outputs_of(network, bounds, FirstIndependent(count)), expected)

    def test_by_hand(self):
        network = renamed(path(5), [5, 3, 4, 1, 2])
        for count, outputs in [
            (0, [-1] * 5), (1, [-1, 1, -1, 1, -1]), (2, [0, 1, 0, 1, 0]), (3, [0, 1, 0, 1, 0]),
        ]:
            self.assertEqual(run(network, (2, 6), FirstIndependent(count)), outputs)
        # A node beside one of the set still waits for all its lower neighbors: 4 is as high as 2.
        network = Network([4, 0, 2, 1], [[1, 2], [0], [0, 3], [2]])
        self.assertEqual(run(network, (2, 5), FirstIndependent(2)), [-1, 1, 0, 1])
        self.assertEqual(run(network, (2, 5), FirstIndependent(3)), [0, 1, 0, 1])

    def test_rounds_and_named(self):
        for count in [0, 1, 9]:
            self.assertIs(FirstIndependent(count).named, True)
            self.assertEqual(FirstIndependent(count).rounds((3, 50)), count)

    def test_a_node_alone(self):
        self.assertEqual(outputs_of(path(1), (1, 1), FirstIndependent(0)), [-1])
        self.assertEqual(outputs_of(path(1), (1, 1), FirstIndependent(1)), [1])
        self.assertEqual(outputs_of(path(1), (1, 1), FirstIndependent(5)), [1])

    def test_in_balls(self):
        for network in samples():
            bounds = bounds_of(network)
            for count in [0, 1, 3]:
                outputs = run(network, bounds, FirstIndependent(count))
                for node in range(network.size()):
                    ball = ball_of(network, node, count)
                    self.assertEqual(output_in_ball(ball, bounds, FirstIndependent(count)), outputs[node])

    def test_states_and_letters_are_data(self):
        network = scattered()
        for count in range(4):
            for node, state in enumerate(states_after(network, (3, 31), FirstIndependent(3), count)):
                letters = FirstIndependent(3).letters((3, 31), state)
                self.assertTrue(is_data(state) and is_data(tuple(letters)))
                self.assertEqual(len(letters), network.degree(node))


if __name__ == "__main__":
    unittest.main()
