import unittest

from nearby.building import path, ring
from nearby.errors import InvalidBounds, InvalidInput
from nearby.network import Network, bounds_of
from nearby.running import letter_count, run, states_after
from tests.helpers import ByBounds, Diary, NamedMixed, inputs_for, samples, scattered


def diary_states(network, bounds, named, rounds, given):
    """The states of Diary, made link by link from the words of the document."""
    names = network.names() if named else [None] * network.size()
    inputs = [None] * network.size() if given is None else given
    states = [[] for _ in names]
    for done in range(rounds):
        for node in range(network.size()):
            row = [None] * network.degree(node)
            for other in range(network.size()):
                for port, reached in enumerate(network.neighbors(other)):
                    if reached == node:
                        row[network.neighbors(node).index(other)] = (names[other], inputs[other], done, port)
            states[node].append(tuple(row))
    return [
        (bounds, names[node], network.degree(node), inputs[node], tuple(states[node])) for node in range(len(names))
    ]


class RunTest(unittest.TestCase):
    def test_outputs_and_states(self):
        for network in samples():
            bounds = (bounds_of(network)[0] + 1, bounds_of(network)[1])
            for named in [True, False]:
                for given in [None, inputs_for(network)]:
                    for count in [0, 1, 3]:
                        algorithm = Diary(named, count)
                        for rounds in range(count + 1):
                            states = states_after(network, bounds, algorithm, rounds, given=given)
                            self.assertEqual(states, diary_states(network, bounds, named, rounds, given))
                        outputs = run(network, bounds, algorithm, given=given)
                        self.assertEqual(outputs, [("output",) + state for state in states])

    def test_ports_of_letters_by_hand(self):
        network = Network([10, 20, 30], [[2, 1], [0], [0]])
        outputs = run(network, (2, 31), Diary(True, 1), given=["a", None, (1,)])
        self.assertEqual(outputs, [
            ("output", (2, 31), 10, 2, "a", (((30, (1,), 0, 0), (20, None, 0, 0)),)),
            ("output", (2, 31), 20, 1, None, (((10, "a", 0, 1),),)),
            ("output", (2, 31), 30, 1, (1,), (((10, "a", 0, 0),),)),
        ])

    def test_rounds_follow_from_the_bounds(self):
        network = ring(5)
        for most in [2, 3, 6]:
            algorithm = ByBounds()
            self.assertEqual(run(network, (most, 5), algorithm), run(network, (2, 5), NamedMixed(most)))
            self.assertEqual(letter_count(network, (most, 5), algorithm), 10 * most)

    def test_nameless_algorithms_get_no_names(self):
        states = states_after(scattered(), (3, 31), Diary(False, 0), 0)
        self.assertEqual([state[1] for state in states], [None] * 7)
        states = states_after(scattered(), (3, 31), Diary(True, 0), 0)
        self.assertEqual([state[1] for state in states], [12, 5, 30, 0, 7, 21, 9])

    def test_lists(self):
        network = path(3)
        given = [4, 5, 6]
        algorithm = Diary(True, 2)
        outputs = run(network, (2, 3), algorithm, given=given)
        states = states_after(network, (2, 3), algorithm, 1, given=given)
        self.assertIs(type(outputs), list)
        self.assertIs(type(states), list)
        self.assertEqual(given, [4, 5, 6])
        outputs.clear()
        states.clear()
        self.assertEqual(len(run(network, (2, 3), algorithm, given=given)), 3)
        self.assertEqual(len(states_after(network, (2, 3), algorithm, 1, given=given)), 3)

    def test_received_letters_may_be_changed_by_the_algorithm(self):
        class Greedy(Diary):
            def letters(self, bounds, state):
                self.sent = Diary.letters(self, bounds, state)
                return self.sent

            def receive(self, bounds, state, received):
                after = Diary.receive(self, bounds, state, received)
                received.clear()
                return after

        for network in samples():
            bounds = bounds_of(network)
            self.assertEqual(run(network, bounds, Greedy(True, 3)), run(network, bounds, Diary(True, 3)))

    def test_letter_count(self):
        self.assertEqual(letter_count(path(4), (2, 4), Diary(True, 5)), 30)
        self.assertEqual(letter_count(scattered(), (3, 31), Diary(False, 2)), 24)
        self.assertEqual(letter_count(ring(3), (2, 3), Diary(True, 0)), 0)
        self.assertEqual(letter_count(path(1), (1, 1), Diary(True, 7)), 0)


class WrongRunTest(unittest.TestCase):
    def test_bounds_that_do_not_suit(self):
        for bounds in [(1, 5), (2, 4), (1, 4)]:
            for given in [None, [1, 2, 3, 4, 5], [1, 2], []]:
                with self.assertRaises(InvalidBounds):
                    run(path(5), bounds, Diary(True, 2), given=given)
                for rounds in [-1, 1, 3]:
                    with self.assertRaises(InvalidBounds):
                        states_after(path(5), bounds, Diary(True, 2), rounds, given=given)

    def test_inputs_of_a_wrong_length(self):
        for given in [[], [1], [1, 2, 3, 4], [1, 2, 3, 4, 5, 6]]:
            with self.assertRaises(InvalidInput):
                run(path(5), (2, 5), Diary(True, 2), given=given)
            with self.assertRaises(InvalidInput):
                states_after(path(5), (2, 5), Diary(True, 2), 1, given=given)

    def test_numbers_of_rounds_out_of_range(self):
        for count, rounds in [(2, -1), (2, 3), (2, 10), (0, 1), (0, -1)]:
            with self.assertRaises(InvalidInput):
                states_after(path(5), (2, 5), Diary(True, count), rounds)


if __name__ == "__main__":
    unittest.main()
