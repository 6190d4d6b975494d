import itertools
import unittest

from nearby.building import grid, path, renamed, ring, star
from nearby.labels import all_say_yes, labels_for, says_yes
from nearby.network import Network, distances
from tests.helpers import changed, complete, is_data, many, samples

SORTS = ["sides", "forest", "root", "size"]


def parts(network):
    """The nodes of each connected part."""
    found = []
    for node in range(network.size()):
        if not any(node in part for part in found):
            found.append([other for other, away in enumerate(distances(network, node)) if away is not None])
    return found


def has_two_colors(network):
    """Whether neighbors are on different sides: at an even and at an odd distance from the first node of a part."""
    sides = []
    for node in range(network.size()):
        sides.append(next(away for away in distances(network, node) if away is not None) % 2)
    return all(sides[node] != sides[other] for node, other in network.links())


def has_ring(network):
    return len(network.links()) > network.size() - len(parts(network))


class SidesTest(unittest.TestCase):
    def test_yes_and_no(self):
        for label in [0, 1]:
            self.assertIs(says_yes("sides", 5, label, []), True)
            self.assertIs(says_yes("sides", 5, label, [(3, 1 - label), (4, 1 - label)]), True)
            self.assertIs(says_yes("sides", 5, label, [(3, 1 - label), (4, label)]), False)
            self.assertIs(says_yes("sides", 5, label, [(3, label)]), False)

    def test_labels_of_another_form(self):
        for label in [None, 2, -1, "0", "", (), (0,), (1, 0), ((0, 1),)]:
            self.assertIs(says_yes("sides", 5, label, []), False)
            self.assertIs(says_yes("sides", 5, label, [(3, 0)]), False)
            self.assertIs(says_yes("sides", 5, 0, [(3, label)]), False)
            self.assertIs(says_yes("sides", 5, 0, [(4, 1), (3, label)]), False)


class ForestTest(unittest.TestCase):
    def test_yes(self):
        self.assertIs(says_yes("forest", 5, (5, 0), []), True)
        self.assertIs(says_yes("forest", 5, (5, 0), [(7, (5, 1)), (8, (5, 1))]), True)
        self.assertIs(says_yes("forest", 5, (9, 3), [(7, (9, 4)), (8, (9, 2)), (1, (9, 4))]), True)
        self.assertIs(says_yes("forest", 5, (9, 1), [(9, (9, 0))]), True)

    def test_each_condition_broken_alone(self):
        for name, label, neighbors in [
            # Another root; a depth of 0 without the root's name, and the other way round; a depth below 0.
            (5, (5, 0), [(7, (5, 1)), (8, (8, 1))]), (5, (4, 0), [(7, (4, 1))]), (5, (5, 2), [(7, (5, 1))]),
            (5, (5, -1), [(7, (5, 0))]), (5, (4, -1), [(7, (4, -2))]),
            # Two neighbors with the depth less by 1, none of them, and one for the depth 0.
            (5, (9, 3), [(7, (9, 2)), (8, (9, 2))]), (5, (9, 3), [(7, (9, 4)), (8, (9, 4))]), (5, (9, 3), []),
            (5, (5, 0), [(7, (5, -1))]), (5, (5, 0), [(7, (5, -1)), (8, (5, 1))]),
            # A neighbor with the same depth, and one with a depth greater by 2.
            (5, (9, 3), [(7, (9, 2)), (8, (9, 3))]), (5, (9, 3), [(7, (9, 2)), (8, (9, 5))]),
            (5, (5, 0), [(7, (5, 0))]), (5, (5, 0), [(7, (5, 2))]), (5, (9, 3), [(7, (9, 2)), (8, (9, 1))]),
        ]:
            self.assertIs(says_yes("forest", name, label, neighbors), False)


class RootTest(unittest.TestCase):
    def test_yes(self):
        self.assertIs(says_yes("root", 5, (5, 0), []), True)
        self.assertIs(says_yes("root", 5, (5, 0), [(7, (5, 1)), (8, (5, 0)), (9, (5, 7)), (3, (5, -1))]), True)
        self.assertIs(says_yes("root", 5, (9, 3), [(7, (9, 2)), (8, (9, 2)), (1, (9, 3)), (2, (9, 6))]), True)

    def test_each_condition_broken_alone(self):
        for name, label, neighbors in [
            (5, (5, 0), [(7, (5, 1)), (8, (8, 1))]), (5, (9, 3), [(7, (9, 2)), (8, (3, 2))]),
            (5, (4, 0), [(7, (4, 1))]), (5, (5, 2), [(7, (5, 1))]), (5, (4, -1), [(7, (4, -2))]),
            (5, (5, -1), [(7, (5, -2))]), (5, (9, 3), [(7, (9, 4)), (8, (9, 3)), (2, (9, 1))]), (5, (9, 3), []),
        ]:
            self.assertIs(says_yes("root", name, label, neighbors), False)


class SizeTest(unittest.TestCase):
    def test_yes(self):
        self.assertIs(says_yes("size", 5, (5, 0, 5, 1, 1), []), True)
        self.assertIs(says_yes("size", 5, (5, 0, 5, 6, 6), [(7, (5, 1, 5, 2, 6)), (8, (5, 1, 5, 3, 6))]), True)
        self.assertIs(says_yes("size", 5, (9, 2, 4, 8, 20), [
            (4, (9, 1, 9, 10, 20)), (7, (9, 3, 5, 7, 20)), (8, (9, 3, 6, 2, 20)), (3, (9, 2, 5, 4, 20)),
            (1, (9, 1, 5, 100, 20)), (2, (9, 4, 5, 50, 20)),
        ]), True)

    def test_each_condition_broken_alone(self):
        up, down = (4, (9, 1, 9, 10, 20)), (7, (9, 3, 5, 7, 20))
        self.assertIs(says_yes("size", 5, (9, 2, 4, 8, 20), [up, down]), True)
        for label, neighbors in [
            # Another root or total of a neighbor, or of the node.
            ((9, 2, 4, 8, 20), [up, (7, (8, 3, 5, 7, 20))]), ((9, 2, 4, 8, 20), [up, (7, (9, 3, 5, 7, 21))]),
            ((8, 2, 4, 8, 20), [up, down]), ((9, 2, 4, 8, 21), [up, down]),
            # The depth, against the name of the root.
            ((9, -1, 4, 1, 20), [(4, (9, -2, 4, 1, 20))]), ((9, 0, 5, 1, 1), []), ((5, 1, 4, 1, 9), [(4, (5, 0, 4, 9, 9))]),
            # The parent: no neighbor, a neighbor with another depth, the node itself.
            ((9, 2, 3, 8, 20), [up, down]), ((9, 2, 7, 8, 20), [up, down]), ((9, 2, 5, 8, 20), [up, down]),
            ((9, 2, 4, 8, 20), [(4, (9, 0, 4, 10, 20)), down]), ((9, 2, 4, 8, 20), [down]),
            # The number below.
            ((9, 2, 4, 7, 20), [up, down]), ((9, 2, 4, 9, 20), [up, down]), ((9, 2, 4, 1, 20), [up, down]),
            ((9, 2, 4, 8, 20), [up]), ((9, 2, 4, 8, 20), [up, (7, (9, 3, 6, 7, 20))]),
            ((9, 2, 4, 8, 20), [up, (7, (9, 4, 5, 7, 20))]), ((9, 2, 4, 8, 20), [up, (7, (9, 2, 5, 7, 20))]),
        ]:
            self.assertIs(says_yes("size", 5, label, neighbors), False)

    def test_the_root(self):
        down = (7, (5, 1, 5, 7, 8))
        self.assertIs(says_yes("size", 5, (5, 0, 5, 8, 8), [down]), True)
        for label, neighbors in [
            ((5, 0, 7, 8, 8), [down]), ((5, 0, -1, 8, 8), [down]), ((5, 0, 5, 8, 9), [(7, (5, 1, 5, 7, 9))]),
            ((5, 0, 5, 9, 9), [(7, (5, 1, 5, 7, 9))]), ((5, -1, 5, 8, 8), [down]),
        ]:
            self.assertIs(says_yes("size", 5, label, neighbors), False)


class FormTest(unittest.TestCase):
    def test_labels_of_another_form(self):
        good = {"forest": ((5, 0), (5, 1)), "root": ((5, 0), (5, 1)), "size": ((5, 0, 5, 2, 2), (5, 1, 5, 1, 2))}
        for sort, (label, near) in good.items():
            self.assertIs(says_yes(sort, 5, label, [(7, near)]), True)
            others = [None, 5, "50", (), (5,), ((5, 0),), label[:-1], label + (0,), (label,)]
            for at in range(len(label)):
                others.extend(label[:at] + (part,) + label[at + 1:] for part in [None, "5", "", (), (5,)])
            for other in others:
                self.assertIs(says_yes(sort, 5, other, [(7, near)]), False)
                self.assertIs(says_yes(sort, 5, other, []), False)
                self.assertIs(says_yes(sort, 5, label, [(7, other)]), False)
                self.assertIs(says_yes(sort, 5, label, [(7, near), (8, other)]), False)

    def test_nothing_is_modified(self):
        neighbors = [(7, (5, 1))]
        says_yes("root", 5, (5, 0), neighbors)
        self.assertEqual(neighbors, [(7, (5, 1))])


class AllTest(unittest.TestCase):
    def test_every_node_is_asked(self):
        network = path(4)
        self.assertIs(all_say_yes("sides", network, [0, 1, 0, 1]), True)
        self.assertIs(all_say_yes("root", network, [(2, 2), (2, 1), (2, 0), (2, 1)]), True)
        self.assertIs(all_say_yes("root", network, [(2, 2), (2, 1), (2, 0), (2, 2)]), False)
        self.assertIs(all_say_yes("root", renamed(network, [0, 1, 3, 2]), [(2, 3), (2, 2), (2, 1), (2, 0)]), True)
        self.assertIs(all_say_yes("root", renamed(network, [0, 1, 2, 3]), [(2, 3), (2, 2), (2, 1), (2, 0)]), False)
        for sort in SORTS:
            labels = labels_for(sort, network)
            self.assertIs(all_say_yes(sort, network, labels), True)
            for node in range(4):
                for label in [None, 7, (0, 9), (9, 9, 9, 9, 9), ()]:
                    self.assertIs(all_say_yes(sort, network, changed(labels, node, label)), False)

    def test_other_lengths(self):
        for network in samples():
            for sort in SORTS:
                labels = labels_for(sort, network)
                if labels is not None:
                    before = list(labels)
                    self.assertIs(all_say_yes(sort, network, labels), True)
                    for row in [labels[:-1], labels + labels[:1], labels + [None], []]:
                        self.assertIs(all_say_yes(sort, network, row), False)
                    self.assertEqual(labels, before)

    def test_what_follows_if_all_say_yes(self):
        # Whatever the labels are: no ring, one root, the right size.
        for network in [path(3), ring(3), ring(4), Network([2, 0, 5], [[1], [0], []])]:
            names = network.names()
            for sort, right in [("forest", not has_ring(network)), ("root", True)]:
                labels = list(itertools.product(names + [9], range(-1, 3)))
                found = False
                for row in itertools.product(labels, repeat=network.size()):
                    if all_say_yes(sort, network, list(row)):
                        found = True
                        for part in parts(network):
                            roots = {row[node][0] for node in part}
                            self.assertEqual(len(roots), 1)
                            self.assertTrue(roots <= {names[node] for node in part})
                self.assertIs(found, right)


class LabelsForTest(unittest.TestCase):
    def networks(self):
        square_and_one = Network([4, 0, 3, 9, 1], [[1, 3], [0, 2], [1, 3], [2, 0], []])
        return many() + [complete(3), complete(5), ring(9), grid(3, 4), star(7), square_and_one]

    def test_all_say_yes(self):
        for network in self.networks():
            for sort in SORTS:
                labels = labels_for(sort, network)
                expected = {"sides": has_two_colors(network), "forest": not has_ring(network)}.get(sort, True)
                self.assertIs(labels is not None, expected)
                if expected:
                    self.assertIs(type(labels), list)
                    self.assertTrue(all(map(is_data, labels)))
                    self.assertIs(all_say_yes(sort, network, labels), True)

    def test_there_are_networks_of_all_kinds(self):
        told = {(has_two_colors(network), has_ring(network), len(parts(network)) > 1) for network in self.networks()}
        self.assertEqual(len(told), 6)

    def test_sides(self):
        self.assertIn(labels_for("sides", path(3)), [[0, 1, 0], [1, 0, 1]])
        self.assertIsNone(labels_for("sides", ring(5)))
        self.assertIsNone(labels_for("sides", Network([0, 1, 2, 3], [[], [2, 3], [1, 3], [1, 2]])))

    def test_forest(self):
        self.assertIsNone(labels_for("forest", ring(4)))
        self.assertIsNone(labels_for("forest", Network([0, 1, 2, 3], [[], [2, 3], [1, 3], [1, 2]])))
        self.assertIsNotNone(labels_for("forest", Network([5, 1, 3], [[1], [0], []])))

    def test_sizes_are_those_of_the_parts(self):
        for network in self.networks():
            labels = labels_for("size", network)
            for part in parts(network):
                self.assertEqual([labels[node][4] for node in part], [len(part)] * len(part))
                names = [network.names()[node] for node in part]
                for sort in ["root", "size"]:
                    roots = {labels_for(sort, network)[node][0] for node in part}
                    self.assertTrue(len(roots) == 1 and roots <= set(names))

    def test_lists_are_new(self):
        for sort in SORTS:
            labels_for(sort, path(3)).clear()
            self.assertEqual(len(labels_for(sort, path(3))), 3)


if __name__ == "__main__":
    unittest.main()
