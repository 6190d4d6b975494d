import random
import unittest

from nearby.building import grid, path, renamed, ring, star
from nearby.coloring import Colors
from nearby.errors import InvalidBounds, InvalidInput
from nearby.joining import Then
from nearby.late import run_late
from nearby.lossy import run_lossy
from nearby.matching import Matching
from nearby.network import Network, bounds_of
from nearby.ruling import Clusters
from nearby.running import letter_count, run
from nearby.simple import Echo, Names, Quiet, Spread
from tests.helpers import Diary, Mixed, NamedMixed, inputs_for, samples, scattered, tangled


class Logged(Mixed):
    """An algorithm that notes which node sends and receives, and in which round."""

    def __init__(self, count):
        Mixed.__init__(self, count)
        self.named = True
        self.log = []

    def begin(self, bounds, name, degree, given):
        return (degree, name, 0)

    def letters(self, bounds, state):
        self.log.append(("send", state[1], state[2] + 1))
        return [(state[1], state[2], port) for port in range(state[0])]

    def receive(self, bounds, state, received):
        self.log.append(("receive", state[1], state[2] + 1))
        return (state[0], state[1], state[2] + 1)


class Marks:
    """A lossy run of marks alone, by the words of the points 11, 43 and 44."""

    def __init__(self, network, rounds):
        self.network, self.rounds, self.log = network, rounds, []
        self.names = network.names()
        self.now = [0] * network.size()
        self.has = [[set() for _ in network.neighbors(node)] for node in range(network.size())]
        self.open = [[[] for _ in row] for row in self.has]
        self.way = []
        for node in range(network.size()):
            self.send(node)
            self.go_on(node)

    def send(self, node):
        if self.now[node] < self.rounds:
            self.log.append(("send", self.names[node], self.now[node] + 1))
            for port, marks in enumerate(self.open[node]):
                marks.append(self.now[node] + 1)
                self.way.append(("letter", node, port, self.now[node] + 1))

    def go_on(self, node):
        while self.now[node] < self.rounds and all(self.now[node] + 1 in marks for marks in self.has[node]):
            self.now[node] += 1
            self.log.append(("receive", self.names[node], self.now[node]))
            self.send(node)

    def move(self, choice):
        at = (choice - choice % 4) // 4 % len(self.way)
        kind, node, port, mark = self.way[at]
        if choice % 4 != 2:
            self.way.pop(at)
        if choice % 4 == 3:
            return
        other, far = self.network.neighbors(node)[port], self.network.far_port(node, port)
        if kind == "receipt":
            if mark in self.open[other][far]:
                self.open[other][far].remove(mark)
            return
        self.way.append(("receipt", other, far, mark))
        self.has[other][far].add(mark)
        self.go_on(other)

    def repeat(self):
        for node, ports in enumerate(self.open):
            for port, marks in enumerate(ports):
                for mark in sorted(marks):
                    self.way.append(("letter", node, port, mark))

    def run(self, choices):
        """The moments and the repetitions."""
        moments = repetitions = 0
        while True:
            if not self.way:
                if all(now == self.rounds for now in self.now) and not any(map(any, self.open)):
                    return moments, repetitions
                self.repeat()
                repetitions += 1
            self.move(choices[moments] if moments < len(choices) else 0)
            moments += 1


def choice_lists():
    """Lists with choices of each kind, alone and mixed."""
    rows = [[]] + [[kind] * 9 for kind in range(4)] + [[4 * at + kind for at in range(30)] for kind in range(4)]
    rows += [[3] * 200, [7] * 60, [10 ** 9 + 3] * 50, [3, 7, 2, 0] * 20, [2, 3] * 40, [0, 3] * 60, [0, 7, 3, 6] * 30]
    for seed in range(8):
        choose = random.Random(seed)
        rows.append([choose.randrange(400) for _ in range(choose.randrange(300))])
        rows.append([4 * choose.randrange(50) + choose.choice([0, 2, 3, 3, 3]) for _ in range(200)])
    return rows


class MomentsTest(unittest.TestCase):
    def test_without_choices(self):
        for network in samples() + [tangled(3, 12, 4)]:
            bounds = bounds_of(network)
            for algorithm in [NamedMixed(3), Mixed(1), Names(2), Colors(), Quiet(4), Echo()]:
                for given in [None, inputs_for(network)]:
                    told = run_lossy(network, bounds, algorithm, [], given=given)
                    self.assertIs(type(told), tuple)
                    self.assertIs(type(told[0]), list)
                    many = letter_count(network, bounds, algorithm)
                    self.assertEqual(told, (run(network, bounds, algorithm, given=given), 2 * many, 0))

    def test_against_a_run_of_marks(self):
        networks = [path(2), path(4), ring(3), star(4), grid(2, 3), scattered(), tangled(5, 9, 3)]
        for network in networks:
            bounds = bounds_of(network)
            for rounds in [0, 1, 2, 5]:
                for choices in choice_lists():
                    algorithm, marks = Logged(rounds), Marks(network, rounds)
                    _, moments, repetitions = run_lossy(network, bounds, algorithm, choices)
                    self.assertEqual((moments, repetitions), marks.run(choices))
                    self.assertEqual(algorithm.log, marks.log)

    def test_letters_lost_by_hand(self):
        one = Names(1)
        both = [(0, 1), (0, 1)]
        # Two letters are lost; they are repeated, and each gets a receipt.
        self.assertEqual(run_lossy(path(2), (1, 2), one, [3, 3]), (both, 6, 1))
        self.assertEqual(run_lossy(path(2), (1, 2), one, [3, 3, 3, 3, 3, 3]), (both, 10, 3))
        # Only 1>0 is lost: 0>1 and its receipt are delivered, then 1>0 is repeated.
        self.assertEqual(run_lossy(path(2), (1, 2), one, [7]), (both, 5, 1))
        self.assertEqual(run_lossy(path(2), (1, 2), one, [3] * 1000), (both, 1004, 500))

    def test_receipts_lost_by_hand(self):
        both = [(0, 1), (0, 1)]
        self.assertEqual(run_lossy(path(2), (1, 2), Names(1), [0, 0, 3, 3]), (both, 8, 1))
        self.assertEqual(run_lossy(path(2), (1, 2), Names(1), [0, 0, 3]), (both, 6, 1))
        # The letters come again and again, and each time their receipts are lost.
        self.assertEqual(run_lossy(path(2), (1, 2), Names(1), [0, 0, 3, 3] * 5), (both, 24, 5))

    def test_a_letter_that_comes_twice_gets_two_receipts(self):
        both = [(0, 1), (0, 1)]
        self.assertEqual(run_lossy(path(2), (1, 2), Names(1), [2]), (both, 6, 0))
        self.assertEqual(run_lossy(path(2), (1, 2), Names(1), [2, 2, 2]), (both, 10, 0))
        # 0>1 comes twice, its first receipt is lost, and the second one confirms it.
        self.assertEqual(run_lossy(path(2), (1, 2), Names(1), [2, 11]), (both, 6, 0))

    def test_a_receipt_that_stays(self):
        both = [(0, 1), (0, 1)]
        # The receipt of 0>1 is delivered twice, which changes nothing else.
        self.assertEqual(run_lossy(path(2), (1, 2), Names(1), [0, 6]), (both, 5, 0))

    def test_the_receipt_goes_before_new_letters(self):
        algorithm = Logged(2)
        # After 0>1#1: 1>0#1, its receipt, 1>0#2. The second one, the receipt, is lost, so 1>0#2 still comes at once.
        self.assertEqual(run_lossy(path(2), (1, 2), algorithm, [0, 7])[1:], (10, 1))
        self.assertEqual(algorithm.log, [
            ("send", 0, 1), ("send", 1, 1), ("receive", 1, 1), ("send", 1, 2),
            ("receive", 0, 1), ("send", 0, 2), ("receive", 0, 2), ("receive", 1, 2),
        ])
        algorithm = Logged(2)
        # The third one is 1>0#2: if it is lost, node 1 comes to its last round first.
        self.assertEqual(run_lossy(path(2), (1, 2), algorithm, [0, 11])[1:], (9, 1))
        self.assertEqual(algorithm.log[-2:], [("receive", 1, 2), ("receive", 0, 2)])

    def test_what_is_repeated_in_order(self):
        # Everything is lost: the letters are repeated by nodes and then by ports, as they were sent first.
        algorithm, marks = Logged(1), Marks(star(4), 1)
        choices = [3] * 6 + [20, 16, 12, 8, 4, 0]
        self.assertEqual(run_lossy(star(4), (3, 4), algorithm, choices)[1:], (18, 1))
        self.assertEqual(marks.run(choices), (18, 1))
        self.assertEqual([entry[1] for entry in algorithm.log if entry[0] == "receive"], [0, 3, 2, 1])

    def test_marks_are_repeated_in_order(self):
        # Both letters of 0 get no receipt, the first one because it is lost.
        algorithm = Logged(2)
        choices = [2, 11, 4, 8, 3]
        marks = Marks(path(2), 2)
        told = run_lossy(path(2), (1, 2), algorithm, choices)
        self.assertEqual(told[1:], marks.run(choices))
        self.assertEqual(algorithm.log, marks.log)

    def test_no_rounds_and_no_links(self):
        self.assertEqual(run_lossy(path(3), (2, 3), Quiet("x"), [1, 2, 3]), (["x"] * 3, 0, 0))
        self.assertEqual(run_lossy(path(1), (1, 1), Names(3), [3, 3]), ([(0,)], 0, 0))
        alone = Network([4, 2], [[], []])
        self.assertEqual(run_lossy(alone, (1, 5), Spread(2), [7], given=[5, -1]), ([5, -1], 0, 0))
        self.assertEqual(run_lossy(path(3), (2, 3), Echo(), [], given=[(1,), None, "b"]), ([(1,), None, "b"], 0, 0))


class OutputsTest(unittest.TestCase):
    def test_outputs_are_those_of_a_run(self):
        choose = random.Random(4)
        algorithms = [NamedMixed(4), Mixed(3), Diary(True, 2), Names(3), Then(NamedMixed(2), Spread(2)), Clusters()]
        for network in samples():
            bounds = bounds_of(network)
            for algorithm in algorithms:
                for given in [None, inputs_for(network)]:
                    expected = run(network, bounds, algorithm, given=given)
                    for _ in range(6):
                        choices = [choose.randrange(500) for _ in range(choose.randrange(400))]
                        told = run_lossy(network, bounds, algorithm, choices, given=given)
                        self.assertEqual(told[0], expected)

    def test_long_runs(self):
        choose = random.Random(9)
        for network in [scattered(), tangled(2, 10, 3), renamed(ring(5), [9, 2, 70, 31, 4])]:
            bounds = bounds_of(network)
            for algorithm in [Colors(), Matching()]:
                expected = run(network, bounds, algorithm)
                choices = [choose.choice([0, 2, 3, 3]) + 4 * choose.randrange(40) for _ in range(3000)]
                self.assertEqual(run_lossy(network, bounds, algorithm, choices)[0], expected)

    def test_without_losses_it_is_a_late_run_with_receipts(self):
        network, bounds = ring(4), (2, 4)
        self.assertEqual(run_lossy(network, bounds, Mixed(3), [])[0], run_late(network, bounds, Mixed(3), [])[0])

    def test_nothing_is_modified(self):
        choices, given = [3, 1, 4, 1, 5, 11], [2, 0, 1]
        for _ in range(2):
            told = run_lossy(path(3), (2, 3), Spread(2), choices, given=given)
            self.assertEqual((choices, given), ([3, 1, 4, 1, 5, 11], [2, 0, 1]))
            self.assertEqual(told[0], [0, 0, 0])
            told[0].clear()

    def test_errors_in_their_order(self):
        for given in [None, [1], []]:
            for bounds in [(1, 3), (2, 2)]:
                with self.assertRaises(InvalidBounds):
                    run_lossy(path(3), bounds, Echo(), [], given=given)
        for given in [[], [1], [1, 2, 3, 4]]:
            with self.assertRaises(InvalidInput):
                run_lossy(path(3), (2, 3), Echo(), [3], given=given)


if __name__ == "__main__":
    unittest.main()
