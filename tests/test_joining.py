import unittest

from nearby.building import path, ring
from nearby.joining import Then
from nearby.network import bounds_of
from nearby.running import letter_count, run, states_after
from nearby.simple import Echo, Names, Quiet, Spread
from tests.helpers import ByBounds, Diary, Mixed, NamedMixed, inputs_for, samples, scattered


class Widest(Names):
    """Names, but the output is the greatest name alone."""

    def output(self, bounds, state):
        return max(state[1])


def in_turn(network, bounds, algorithms, given):
    """The outputs of algorithms that are run by themselves, one after the other."""
    for algorithm in algorithms:
        given = run(network, bounds, algorithm, given=given)
    return given


class ThenTest(unittest.TestCase):
    def test_two_algorithms(self):
        for network in samples():
            bounds = bounds_of(network)
            for first in [Widest(0), Widest(2), NamedMixed(3), Mixed(1), Quiet(4), ByBounds()]:
                for second in [Spread(0), Spread(2), Echo(), Mixed(2), NamedMixed(1), Quiet(None), ByBounds()]:
                    for given in [None, inputs_for(network)]:
                        expected = in_turn(network, bounds, [first, second], given)
                        self.assertEqual(run(network, bounds, Then(first, second), given=given), expected)

    def test_the_outputs_of_the_first_are_the_inputs_of_the_second(self):
        outputs = run(path(3), (2, 3), Then(Names(1), Diary(False, 0)))
        self.assertEqual([state[4] for state in outputs], [(0, 1), (0, 1, 2), (1, 2)])
        self.assertEqual(run(path(5), (2, 5), Then(Widest(1), Spread(2))), [1, 1, 1, 2, 3])

    def test_three_algorithms_nested_in_both_ways(self):
        for network in samples():
            bounds, given = bounds_of(network), inputs_for(network)
            for parts in [
                (NamedMixed(2), Mixed(1), Spread(3)), (Echo(), Mixed(2), Echo()), (Mixed(0), NamedMixed(0), Quiet(3)),
                (Widest(1), Echo(), Mixed(2)), (Echo(), Echo(), NamedMixed(2)), (ByBounds(), Quiet(2), ByBounds()),
            ]:
                first, second, third = parts
                expected = in_turn(network, bounds, parts, given)
                for joined in [Then(Then(first, second), third), Then(first, Then(second, third))]:
                    self.assertEqual(run(network, bounds, joined, given=given), expected)
                    self.assertEqual(joined.rounds(bounds), sum(part.rounds(bounds) for part in parts))

    def test_one_algorithm_may_be_both_parts(self):
        part = NamedMixed(2)
        network = scattered()
        expected = in_turn(network, (3, 31), [part, part], None)
        self.assertEqual(run(network, (3, 31), Then(part, part)), expected)

    def test_rounds(self):
        for first, second in [(0, 0), (0, 3), (3, 0), (2, 5)]:
            joined = Then(Mixed(first), Names(second))
            self.assertEqual(joined.rounds((2, 9)), first + second)
            self.assertEqual(letter_count(ring(4), (2, 4), joined), 8 * (first + second))
            self.assertEqual(len(states_after(ring(4), (2, 4), joined, first + second)), 4)
        self.assertEqual(Then(ByBounds(), ByBounds()).rounds((5, 9)), 10)

    def test_named_if_one_of_both_is(self):
        for first in [True, False]:
            for second in [True, False]:
                joined = Then(Diary(first, 1), Diary(second, 1))
                self.assertIs(joined.named, first or second)

    def test_only_named_parts_get_the_name(self):
        network = scattered()
        names = network.names()
        for first in [True, False]:
            for second in [True, False]:
                for count in [0, 2]:
                    joined = Then(Diary(first, count), Diary(second, count))
                    for node, late in enumerate(run(network, (3, 31), joined)):
                        early = late[4]
                        self.assertEqual(early[2], names[node] if first else None)
                        self.assertEqual(late[2], names[node] if second else None)

    def test_degrees_and_bounds_reach_both_parts(self):
        network = scattered()
        for node, late in enumerate(run(network, (4, 40), Then(Diary(True, 1), Diary(False, 1)))):
            early = late[4]
            self.assertEqual((early[1], early[3]), ((4, 40), network.degree(node)))
            self.assertEqual((late[1], late[3]), ((4, 40), network.degree(node)))

    def test_as_many_letters_as_ports(self):
        joined = Then(Names(1), Echo())
        for degree in [0, 3]:
            state = joined.begin((3, 9), 4, degree, None)
            self.assertEqual(len(joined.letters((3, 9), state)), degree)


if __name__ == "__main__":
    unittest.main()
