import random
import unittest

from nearby.building import grid, path, renamed, ring, star
from nearby.clustersums import ClusterSums
from nearby.coloring import Colors, Fewer, Shrink
from nearby.cuts import Cut
from nearby.errors import InvalidBounds, InvalidInput
from nearby.forests import Forests, Heights
from nearby.joining import Then
from nearby.matching import CoverByMatching, Matching, NamelessCover
from nearby.network import Network, bounds_of
from nearby.ordered import FirstIndependent
from nearby.ruling import Clusters, Rulers
from nearby.running import run, states_after
from nearby.sets import Independent
from nearby.simple import Echo, Names, Quiet, Spread
from nearby.steady import right_memories, run_steady, steady_step
from tests.helpers import Diary, Mixed, NamedMixed, changed, complete, inputs_for, is_data, samples, scattered, tangled


def step_by_words(network, bounds, algorithm, memories, given):
    """The memories after a round, node by node and state by state."""
    names, stepped = network.names(), []
    for node in range(network.size()):
        told = None if given is None else given[node]
        states = [algorithm.begin(bounds, names[node] if algorithm.named else None, network.degree(node), told)]
        for at in range(algorithm.rounds(bounds)):
            received = []
            for port, other in enumerate(network.neighbors(node)):
                received.append(algorithm.letters(bounds, memories[other][at])[network.far_port(node, port)])
            states.append(algorithm.receive(bounds, memories[node][at], received))
        stepped.append(tuple(states))
    return stepped


def other_memories(network, bounds, algorithm, given, choose):
    """Memories for the nodes from runs with these bounds on other networks, by degrees; some are put together."""
    sources = [network] + [renamed(network, choose.sample(range(bounds[1]), network.size())) for _ in range(3)]
    sources += [
        base for base in [ring(3), star(4), path(4), complete(4), grid(2, 3)]
        if base.size() <= bounds[1] and bounds_of(base)[0] <= bounds[0]
    ]
    found = {}
    for source in sources:
        inputs = None if given is None else [choose.choice(given) for _ in range(source.size())]
        for node, memory in enumerate(right_memories(source, bounds, algorithm, given=inputs)):
            found.setdefault(source.degree(node), []).append(memory)
    memories = []
    for node in range(network.size()):
        fitting = found[network.degree(node)]
        if choose.random() < 0.5:
            memories.append(choose.choice(fitting))
        else:
            memories.append(tuple(choose.choice(fitting)[at] for at in range(algorithm.rounds(bounds) + 1)))
    return memories


class SteadyCase(unittest.TestCase):
    def check_comes_right(self, network, bounds, algorithm, given, choose):
        """From other memories the right ones come after rounds + 1 steps, and stay; also after a later change."""
        rounds = algorithm.rounds(bounds)
        right = right_memories(network, bounds, algorithm, given=given)
        outputs = run(network, bounds, algorithm, given=given)
        self.assertEqual(steady_step(network, bounds, algorithm, right, given=given), right)
        memories = other_memories(network, bounds, algorithm, given, choose)
        if rounds < 12:
            self.assertEqual(run_steady(network, bounds, algorithm, memories, rounds + 1, given=given), outputs)
        for _ in range(rounds + 1):
            memories = steady_step(network, bounds, algorithm, memories, given=given)
        self.assertEqual(memories, right)
        memories = steady_step(network, bounds, algorithm, memories, given=given)
        self.assertEqual(memories, right)
        others = other_memories(network, bounds, algorithm, given, choose)
        for node in range(0, network.size(), 2):
            memories = changed(memories, node, others[node])
        for _ in range(rounds + 1):
            memories = steady_step(network, bounds, algorithm, memories, given=given)
        self.assertEqual(memories, right)


class MemoriesTest(unittest.TestCase):
    def test_states_of_a_run(self):
        for network in samples():
            bounds = bounds_of(network)
            for algorithm in [Diary(True, 3), Mixed(2), Names(0), Then(NamedMixed(2), Spread(2)), Colors()]:
                for given in [None, inputs_for(network)]:
                    memories = right_memories(network, bounds, algorithm, given=given)
                    self.assertIs(type(memories), list)
                    self.assertEqual(len(memories), network.size())
                    for node, memory in enumerate(memories):
                        self.assertTrue(type(memory) is tuple and is_data(memory))
                        self.assertEqual(len(memory), algorithm.rounds(bounds) + 1)
                    for rounds in range(algorithm.rounds(bounds) + 1):
                        states = states_after(network, bounds, algorithm, rounds, given=given)
                        self.assertEqual([memory[rounds] for memory in memories], states)

    def test_errors_in_their_order(self):
        for given in [None, [1], []]:
            for bounds in [(1, 3), (2, 2)]:
                with self.assertRaises(InvalidBounds):
                    right_memories(path(3), bounds, Echo(), given=given)
        for given in [[], [1], [1, 2, 3, 4]]:
            with self.assertRaises(InvalidInput):
                right_memories(path(3), (2, 3), Echo(), given=given)


class StepTest(SteadyCase):
    def test_against_the_methods(self):
        choose = random.Random(1)
        for network in samples() + [tangled(3, 12, 4)]:
            degree, names = bounds_of(network)
            bounds = (degree, names + 20)
            for algorithm in [Diary(True, 2), Diary(False, 3), NamedMixed(3), Names(2), Quiet(1)]:
                for given in [None, inputs_for(network)]:
                    memories = other_memories(network, bounds, algorithm, given, choose)
                    for count in range(algorithm.rounds(bounds) + 3):
                        expected = step_by_words(network, bounds, algorithm, memories, given)
                        before = list(memories)
                        found = steady_step(network, bounds, algorithm, memories, given=given)
                        self.assertIs(type(found), list)
                        self.assertEqual(found, expected)
                        self.assertEqual(memories, before)
                        told = [algorithm.output(bounds, memory[-1]) for memory in memories]
                        self.assertEqual(run_steady(network, bounds, algorithm, before, 0, given=given), told)
                        memories = found

    def test_each_step_makes_one_more_state_right(self):
        network, bounds, algorithm = scattered(), (3, 60), Diary(True, 3)
        right = right_memories(network, bounds, algorithm)
        memories = other_memories(network, bounds, algorithm, [None], random.Random(5))
        for count in range(5):
            self.assertEqual([memory[:count] for memory in memories], [memory[:count] for memory in right])
            memories = steady_step(network, bounds, algorithm, memories)
        self.assertEqual(memories, right)

    def test_outputs_of_the_last_states(self):
        memories = [((1, 5),), ((1, 7),)]
        self.assertEqual(run_steady(path(2), (1, 2), Echo(), memories, 0, given=[3, 4]), [5, 7])
        self.assertEqual(run_steady(path(2), (1, 2), Echo(), memories, 1, given=[3, 4]), [3, 4])
        memories = [((1, 5), (1, 2)), ((1, 7), (1, 9))]
        self.assertEqual(run_steady(path(2), (1, 2), Spread(1), memories, 0, given=[3, 4]), [2, 9])
        self.assertEqual(run_steady(path(2), (1, 2), Spread(1), memories, 1, given=[3, 4]), [5, 5])
        self.assertEqual(run_steady(path(2), (1, 2), Spread(1), memories, 2, given=[3, 4]), [3, 3])
        self.assertEqual(memories, [((1, 5), (1, 2)), ((1, 7), (1, 9))])

    def test_comes_right(self):
        choose = random.Random(2)
        for network in samples():
            degree, names = bounds_of(network)
            for algorithm in [Diary(True, 3), Mixed(4), NamedMixed(2), Quiet(2), Then(Mixed(2), Spread(1))]:
                for given in [None, inputs_for(network)]:
                    self.check_comes_right(network, (degree, names + 9), algorithm, given, choose)

    def test_errors_in_their_order(self):
        right = right_memories(path(3), (2, 3), Spread(1), given=[1, 2, 3])
        steps = [
            lambda bounds, memories, given: steady_step(path(3), bounds, Spread(1), memories, given=given),
            lambda bounds, memories, given: run_steady(path(3), bounds, Spread(1), memories, 0, given=given),
            lambda bounds, memories, given: run_steady(path(3), bounds, Spread(1), memories, 2, given=given),
        ]
        for step in steps:
            step((2, 3), right, [1, 2, 3])
            for memories in [right, [], right[:2], right + right[:1]]:
                for given in [None, [1, 2, 3], []]:
                    for bounds in [(1, 3), (2, 2)]:
                        with self.assertRaises(InvalidBounds):
                            step(bounds, memories, given)
                for given in [[], [1], [1, 2, 3, 4]]:
                    with self.assertRaises(InvalidInput):
                        step((2, 3), memories, given)
            for memories in [[], right[:2], right + right[:1]]:
                with self.assertRaises(InvalidInput):
                    step((2, 3), memories, [1, 2, 3])


class AlgorithmsTest(SteadyCase):
    """Point 55: these algorithms also work for states that do not fit together."""

    def check(self, algorithms, inputs=None):
        choose = random.Random(3)
        for network in [
            path(1), path(2), renamed(path(5), [8, 3, 0, 5, 1]), renamed(ring(5), [4, 9, 2, 7, 0]), star(5),
            Network([12, 5, 11, 0, 7], [[3, 1], [0, 3], [], [1, 0, 4], [3]]), renamed(grid(2, 3), [9, 0, 7, 3, 8, 1]),
        ]:
            degree, names = bounds_of(network)
            for bounds in [(degree, names + 2), (degree + 1, names + 9)]:
                for algorithm in algorithms(bounds):
                    given = None if inputs is None else inputs(network, bounds)
                    self.check_comes_right(network, bounds, algorithm, given, choose)

    def test_simple_ones(self):
        self.check(lambda bounds: [Names(0), Names(2), Forests(), Heights(0), Heights(3)])
        self.check(lambda bounds: [Spread(0), Spread(3)], lambda network, bounds: inputs_for(network))

    def test_colors(self):
        self.check(lambda bounds: [Shrink(), Colors()])
        self.check(lambda bounds: [Fewer(bounds[1])], lambda network, bounds: network.names())

    def test_sets_and_matchings(self):
        self.check(lambda bounds: [Independent(), NamelessCover(), FirstIndependent(0), FirstIndependent(4)])

    def test_matchings(self):
        self.check(lambda bounds: [Matching(), CoverByMatching()])

    def test_rulers_and_clusters(self):
        self.check(lambda bounds: [Rulers(), Clusters()])

    def test_sums_and_cuts(self):
        # Point 55 does not name them, but they come right as well.
        self.check(lambda bounds: [ClusterSums()], lambda network, bounds: inputs_for(network))
        self.check(lambda bounds: [Cut()])

    def test_greater_names(self):
        choose = random.Random(7)
        network = renamed(ring(6), [99999, 20, 3001, 0, 777, 54321])
        for algorithm in [Shrink(), Colors(), Independent(), Matching(), Clusters(), FirstIndependent(3)]:
            self.check_comes_right(network, (2, 100000), algorithm, None, choose)


if __name__ == "__main__":
    unittest.main()
