import unittest

from nearby.building import path
from nearby.network import bounds_of, distances
from nearby.running import run, states_after
from nearby.simple import Echo, Names, Quiet, Spread
from tests.helpers import inputs_for, is_data, samples, scattered


def near(network, node, count):
    """The nodes within a distance of a node."""
    return [other for other, away in enumerate(distances(network, node)) if away is not None and away <= count]


class SimpleTest(unittest.TestCase):
    def test_named_and_rounds(self):
        for algorithm, named, rounds in [
            (Quiet(3), False, 0), (Echo(), False, 0), (Names(0), True, 0), (Names(4), True, 4),
            (Spread(0), False, 0), (Spread(5), False, 5),
        ]:
            self.assertIs(algorithm.named, named)
            for bounds in [(1, 1), (6, 100)]:
                self.assertEqual(algorithm.rounds(bounds), rounds)

    def test_quiet(self):
        for value in [None, 0, -3, 10 ** 30, "", "a\nb", (), (1, (None, "x"), ())]:
            for network in samples():
                for given in [None, inputs_for(network)]:
                    outputs = run(network, bounds_of(network), Quiet(value), given=given)
                    self.assertEqual(outputs, [value] * network.size())

    def test_echo(self):
        for network in samples():
            bounds = bounds_of(network)
            self.assertEqual(run(network, bounds, Echo()), [None] * network.size())
            given = [[None, "a", (1, ("b",)), -4][node % 4] for node in range(network.size())]
            self.assertEqual(run(network, bounds, Echo(), given=given), given)

    def test_names_by_hand(self):
        network = scattered()
        self.assertEqual(run(network, (3, 31), Names(0)), [(12,), (5,), (30,), (0,), (7,), (21,), (9,)])
        self.assertEqual(run(network, (3, 31), Names(1)), [
            (0, 5, 12), (0, 5, 12, 21), (30,), (0, 5, 12, 21), (7, 9), (0, 5, 21), (7, 9),
        ])
        self.assertEqual(run(network, (3, 31), Names(9))[5], (0, 5, 12, 21))

    def test_names_and_spread_follow_the_distances(self):
        for network in samples():
            bounds, names, given = bounds_of(network), network.names(), inputs_for(network)
            for count in [0, 1, 2, 3, network.size() + 2]:
                told = run(network, bounds, Names(count))
                least = run(network, bounds, Spread(count), given=given)
                for node in range(network.size()):
                    nodes = near(network, node, count)
                    self.assertEqual(told[node], tuple(sorted(names[other] for other in nodes)))
                    self.assertEqual(least[node], min(given[other] for other in nodes))

    def test_spread_compares_as_integers(self):
        given = [-2, 10, -10, 9, 100]
        self.assertEqual(run(path(5), (2, 5), Spread(0), given=given), given)
        self.assertEqual(run(path(5), (2, 5), Spread(1), given=given), [-2, -10, -10, -10, 9])
        self.assertEqual(run(path(5), (2, 5), Spread(2), given=given), [-10, -10, -10, -10, -10])
        self.assertEqual(run(path(5), (2, 5), Spread(3), given=[9, 10, 100, 11, 8]), [9, 8, 8, 8, 8])

    def test_as_many_letters_as_ports(self):
        for degree in [0, 1, 4]:
            for algorithm in [Quiet("x"), Echo(), Names(2), Spread(2)]:
                name = 5 if algorithm.named else None
                state = algorithm.begin((4, 9), name, degree, 3)
                letters = algorithm.letters((4, 9), state)
                self.assertIs(type(letters), list)
                self.assertEqual(len(letters), degree)

    def test_nothing_but_data(self):
        network = scattered()
        for algorithm in [Quiet((1, "x")), Echo(), Names(2), Spread(2)]:
            states = states_after(network, (3, 31), algorithm, algorithm.rounds((3, 31)), given=inputs_for(network))
            self.assertTrue(all(map(is_data, states)))
            for state in states:
                self.assertTrue(all(map(is_data, algorithm.letters((3, 31), state))))


if __name__ == "__main__":
    unittest.main()
