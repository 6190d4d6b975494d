import itertools
import unittest

from nearby.building import grid, path, renamed, ring, star, turned
from nearby.forests import Forests, Heights, are_forests
from nearby.network import Network, bounds_of
from nearby.running import run, states_after
from tests.helpers import bounds_for, changed, complete, crooked_grid, is_data, many, outputs_of, samples, scattered


def outs_by_words(network):
    names = network.names()
    outs = []
    for node in range(network.size()):
        upward = [port for port, other in enumerate(network.neighbors(node)) if names[other] > names[node]]
        outs.append(tuple(upward.index(port) if port in upward else -1 for port in range(network.degree(node))))
    return outs


def has_ring(links):
    """Whether links have a ring: taking off ends again and again leaves some of them."""
    links = set(links)
    while links:
        ends = [node for link in links for node in link]
        single = {node for node in ends if ends.count(node) == 1}
        left = {link for link in links if not single & set(link)}
        if left == links:
            return True
        links = left
    return False


def are_forests_by_words(network, outputs):
    if len(outputs) != network.size():
        return False
    numbered = {}
    for node, outs in enumerate(outputs):
        if len(outs) != network.degree(node):
            return False
        numbers = [number for number in outs if number >= 0]
        if len(numbers) != len(set(numbers)):
            return False
    for node, other in network.links():
        port = network.neighbors(node).index(other)
        both = [outputs[node][port], outputs[other][network.far_port(node, port)]]
        if min(both) != -1 or max(both) < 0:
            return False
        numbered.setdefault(max(both), []).append((node, other))
    return not any(has_ring(links) for links in numbered.values())


def heights_by_words(network):
    """The heights, from the nodes in the order of their names."""
    names = network.names()
    heights = {}
    for node in sorted(range(network.size()), key=lambda node: names[node]):
        heights[node] = max((heights[other] + 1 for other in network.neighbors(node) if other in heights), default=0)
    return [heights[node] for node in range(network.size())]


class ForestsTest(unittest.TestCase):
    def test_out_lists(self):
        for network in many() + [complete(7)]:
            for bounds in bounds_for(network):
                outputs = outputs_of(network, bounds, Forests())
                self.assertEqual(outputs, outs_by_words(network))
                self.assertIs(are_forests(network, outputs), True)

    def test_ports_in_any_order(self):
        network = star(4)
        for order in itertools.permutations(range(3)):
            for names in itertools.permutations([2, 4, 6, 8]):
                moved = turned(renamed(network, list(names)), [list(order), [0], [0], [0]])
                outputs = run(moved, (3, 9), Forests())
                self.assertEqual(outputs, outs_by_words(moved))
                self.assertIs(are_forests(moved, outputs), True)

    def test_by_hand(self):
        self.assertEqual(run(path(3), (2, 3), Forests()), [(0,), (-1, 0), (-1,)])
        network = Network([5, 9, 1, 7], [[1, 2, 3], [0, 3], [0], [1, 0]])
        self.assertEqual(run(network, (3, 10), Forests()), [(0, -1, 1), (-1, -1), (0,), (0, -1)])

    def test_rounds_and_named(self):
        self.assertIs(Forests().named, True)
        self.assertEqual(Forests().rounds((1, 1)), 1)
        self.assertEqual(Forests().rounds((6, 100000)), 1)

    def test_a_node_alone(self):
        self.assertEqual(outputs_of(path(1), (1, 1), Forests()), [()])
        self.assertIs(are_forests(path(1), [()]), True)
        self.assertIs(are_forests(path(1), [(-1,)]), False)
        self.assertIs(are_forests(path(1), [(0,)]), False)

    def test_states_and_letters_are_data(self):
        network = scattered()
        for algorithm in [Forests(), Heights(3)]:
            for count in range(algorithm.rounds((3, 31)) + 1):
                for node, state in enumerate(states_after(network, (3, 31), algorithm, count)):
                    letters = algorithm.letters((3, 31), state)
                    self.assertTrue(is_data(state) and is_data(tuple(letters)))
                    self.assertEqual(len(letters), network.degree(node))


class AreForestsTest(unittest.TestCase):
    def test_all_lists_on_small_networks(self):
        for network, most in [(path(2), 3), (path(3), 2), (ring(3), 1), (star(4), 1)]:
            rows = [itertools.product(range(-2, most + 1), repeat=network.degree(node)) for node in range(network.size())]
            found = set()
            for outputs in itertools.product(*map(list, rows)):
                right = are_forests_by_words(network, outputs)
                self.assertIs(are_forests(network, list(outputs)), right)
                found.add(right)
            self.assertEqual(found, {True, False})

    def test_a_ring_within_one_number(self):
        self.assertIs(are_forests(ring(3), [(-1, 0), (-1, 0), (-1, 0)]), False)
        self.assertIs(are_forests(ring(3), [(-1, 0), (-1, 0), (-1, 1)]), True)
        self.assertIs(are_forests(ring(5), [(4, -1), (4, -1), (4, -1), (4, -1), (4, -1)]), False)
        # A node before the ring, and a ring beside a part without one.
        network = Network([0, 1, 2, 3, 4, 5], [[1], [2, 3, 0], [1, 3], [1, 2], [5], [4]])
        self.assertIs(are_forests(network, [(0,), (0, -1, -1), (-1, 0), (0, -1), (0,), (-1,)]), False)
        self.assertIs(are_forests(network, [(0,), (0, -1, -1), (-1, 0), (7, -1), (0,), (-1,)]), True)
        self.assertIs(are_forests(network, [(0,), (0, 2, -1), (-1, 0), (-1, -1), (0,), (-1,)]), True)

    def test_a_link_numbered_at_both_ends_or_at_none(self):
        self.assertIs(are_forests(path(2), [(0,), (0,)]), False)
        self.assertIs(are_forests(path(2), [(0,), (1,)]), False)
        self.assertIs(are_forests(path(2), [(-1,), (-1,)]), False)
        self.assertIs(are_forests(path(2), [(-1,), (5,)]), True)
        self.assertIs(are_forests(path(2), [(-2,), (0,)]), False)
        self.assertIs(are_forests(path(2), [(-2,), (-1,)]), False)

    def test_a_number_twice_at_a_node(self):
        self.assertIs(are_forests(path(3), [(-1,), (0, 0), (-1,)]), False)
        self.assertIs(are_forests(path(3), [(-1,), (0, 1), (-1,)]), True)
        self.assertIs(are_forests(path(3), [(0,), (-1, -1), (0,)]), True)
        self.assertIs(are_forests(star(4), [(2, 1, 2), (-1,), (-1,), (-1,)]), False)

    def test_single_changes(self):
        for network in [crooked_grid(), scattered(), grid(3, 3)]:
            outputs = run(network, bounds_of(network), Forests())
            for node, outs in enumerate(outputs):
                for port in range(len(outs)):
                    for number in [-2, -1, 0, 1, 2, 3]:
                        row = changed(outputs, node, outs[:port] + (number,) + outs[port + 1:])
                        self.assertIs(are_forests(network, row), are_forests_by_words(network, row))

    def test_wrong_lengths(self):
        for network in samples():
            outputs = run(network, bounds_of(network), Forests())
            self.assertIs(are_forests(network, outputs), True)
            for row in [outputs[:-1], outputs + [()], []]:
                self.assertIs(are_forests(network, row), False)
            for node, outs in enumerate(outputs):
                for other in [outs + (-1,), outs + (7,), outs[:-1]]:
                    if other != outs:
                        self.assertIs(are_forests(network, changed(outputs, node, other)), False)


class HeightsTest(unittest.TestCase):
    def test_every_count(self):
        for network in many():
            heights = heights_by_words(network)
            for bounds in bounds_for(network)[:2]:
                for count in range(max(heights) + 3):
                    expected = [min(height, count) for height in heights]
                    self.assertEqual(outputs_of(network, bounds, Heights(count)), expected)

    def test_by_hand(self):
        self.assertEqual(run(path(4), (2, 4), Heights(9)), [0, 1, 2, 3])
        self.assertEqual(run(path(4), (2, 4), Heights(2)), [0, 1, 2, 2])
        self.assertEqual(run(path(4), (2, 4), Heights(0)), [0, 0, 0, 0])
        self.assertEqual(run(renamed(path(5), [5, 9, 4, 7, 8]), (2, 10), Heights(5)), [0, 1, 0, 1, 2])
        self.assertEqual(outputs_of(path(1), (1, 1), Heights(3)), [0])

    def test_rounds_and_named(self):
        for count in [0, 1, 7]:
            self.assertIs(Heights(count).named, True)
            self.assertEqual(Heights(count).rounds((3, 50)), count)


if __name__ == "__main__":
    unittest.main()
