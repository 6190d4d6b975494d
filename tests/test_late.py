import unittest

from nearby.building import path, ring, star
from nearby.errors import InvalidBounds, InvalidInput
from nearby.joining import Then
from nearby.late import run_late
from nearby.network import Network, bounds_of
from nearby.running import letter_count, run
from nearby.simple import Echo, Names, Quiet, Spread
from tests.helpers import Diary, Mixed, NamedMixed, inputs_for, samples


class Logged(Mixed):
    """An algorithm that notes which node sends and receives, and in which round."""

    def __init__(self, count):
        Mixed.__init__(self, count)
        self.named = True
        self.log = []

    def begin(self, bounds, name, degree, given):
        return (degree, name, 0)

    def letters(self, bounds, state):
        self.log.append(("send", state[1], state[2]))
        return [(state[1], state[2], port) for port in range(state[0])]

    def receive(self, bounds, state, received):
        self.log.append(("receive", state[1], state[2], tuple(received)))
        return (state[0], state[1], state[2] + 1)


def choice_lists():
    """Lists of choices: even ones, odd ones, and some far above the number of letters."""
    return [
        [], [0], [1], [2 * n for n in range(60)], [2 * n + 1 for n in range(60)], [n * n % 101 for n in range(90)],
        [10 ** 9 + 7 * n for n in range(70)], [1] * 40 + [0] * 10, [(n * 7919 + 13) % 64 for n in range(400)],
        [10 ** 12 - n for n in range(30)],
    ]


class LateTest(unittest.TestCase):
    def test_outputs_moments_and_skew(self):
        algorithms = [
            NamedMixed(3), Mixed(4), Mixed(1), Diary(True, 2), Names(2), Quiet(1), Echo(),
            Then(NamedMixed(2), Spread(2)),
        ]
        for network in samples():
            bounds = (bounds_of(network)[0] + 1, bounds_of(network)[1])
            for algorithm in algorithms:
                for given in [None, inputs_for(network)]:
                    expected = run(network, bounds, algorithm, given=given)
                    many = letter_count(network, bounds, algorithm)
                    for choices in choice_lists():
                        told = run_late(network, bounds, algorithm, choices, given=given)
                        self.assertIs(type(told), tuple)
                        outputs, moments, skew = told
                        self.assertIs(type(outputs), list)
                        self.assertEqual(outputs, expected)
                        self.assertEqual(skew, 1 if many else 0)
                        odd = sum(choice % 2 for choice in choices[:moments])
                        self.assertEqual(moments, many + odd)

    def test_moments_without_odd_choices(self):
        for choices in [[], [4, 2, 0, 18, 6], [2 * n for n in range(500)]]:
            self.assertEqual(run_late(ring(5), (2, 5), Names(4), choices)[1], 40)

    def test_moments_with_odd_choices(self):
        self.assertEqual(run_late(path(2), (1, 2), Names(1), [1])[1], 3)
        self.assertEqual(run_late(path(2), (1, 2), Names(1), [1, 1, 3, 0, 0, 1])[1], 5)

    def test_no_rounds_and_no_links(self):
        self.assertEqual(run_late(path(3), (2, 3), Quiet("x"), [1, 2, 3]), (["x"] * 3, 0, 0))
        self.assertEqual(run_late(star(1), (1, 1), Names(3), [1, 1]), ([(0,)], 0, 0))
        alone = Network([4, 2], [[], []])
        self.assertEqual(run_late(alone, (1, 5), Spread(2), [7], given=[5, -1]), ([5, -1], 0, 0))

    def test_nodes_without_ports_receive_at_once(self):
        algorithm = Logged(2)
        run_late(Network([3, 8, 5], [[], [2], [1]]), (1, 9), algorithm, [])
        heard = [entry for entry in algorithm.log if entry[1] == 3 and entry[0] == "receive"]
        self.assertEqual(heard, [("receive", 3, 0, ()), ("receive", 3, 1, ())])

    def test_without_choices_the_first_letter_is_delivered(self):
        algorithm = Logged(2)
        self.assertEqual(run_late(path(3), (2, 3), algorithm, [])[1:], (8, 1))
        self.assertEqual([entry[:3] for entry in algorithm.log], [
            ("send", 0, 0), ("send", 1, 0), ("send", 2, 0),
            ("receive", 0, 0), ("send", 0, 1),
            ("receive", 2, 0), ("send", 2, 1),
            ("receive", 1, 0), ("send", 1, 1),
            ("receive", 1, 1), ("receive", 0, 1), ("receive", 2, 1),
        ])

    def test_order_of_letters_by_hand(self):
        algorithm = Logged(2)
        # Behind each choice: the letters on the way, as sender>receiver#mark, and what the choice does.
        choices = [
            2,    # 0>1#1 1>0#1 1>2#1 2>1#1: 1>0#1 is taken, node 0 goes on and sends 0>1#2
            7,    # 0>1#1 1>2#1 2>1#1 0>1#2: 0>1#2 is delivered and stays; node 1 keeps it
            6,    # the same: 0>1#2 is taken and thrown away
            5,    # 0>1#1 1>2#1 2>1#1: 2>1#1 is delivered and stays; node 1 lacks 0>1#1
            100,  # the same: 50 modulo 3 is 2, so 2>1#1 is taken and thrown away
        ]
        # Then the first one each time: 0>1#1 (node 1 goes on), 1>2#1 (node 2), 1>0#2 (node 0), 1>2#2 (node 2), 2>1#2.
        outputs, moments, skew = run_late(path(3), (2, 3), algorithm, choices)
        self.assertEqual((moments, skew), (10, 1))
        self.assertEqual(algorithm.log, [
            ("send", 0, 0), ("send", 1, 0), ("send", 2, 0),
            ("receive", 0, 0, ((1, 0, 0),)), ("send", 0, 1),
            ("receive", 1, 0, ((0, 0, 0), (2, 0, 0))), ("send", 1, 1),
            ("receive", 2, 0, ((1, 0, 1),)), ("send", 2, 1),
            ("receive", 0, 1, ((1, 1, 0),)),
            ("receive", 2, 1, ((1, 1, 1),)),
            ("receive", 1, 1, ((0, 1, 0), (2, 1, 0))),
        ])

    def test_a_letter_that_stays_keeps_its_place(self):
        algorithm = Logged(1)
        # Star with the letters 0>1 0>2 0>3 1>0 2>0 3>0: the choice 3 delivers 0>2, which stays second.
        self.assertEqual(run_late(star(4), (3, 4), algorithm, [3, 2, 2, 0])[1], 7)
        heard = [entry[1] for entry in algorithm.log if entry[0] == "receive"]
        self.assertEqual(heard, [2, 3, 1, 0])

    def test_a_node_can_receive_twice_in_one_moment(self):
        algorithm = Logged(3)
        # 0>1#1 1>0#1: 1>0#1 first; then 0>1#2 before 0>1#1, with which node 1 goes on by two rounds.
        self.assertEqual(run_late(path(2), (1, 2), algorithm, [2, 2])[1:], (6, 1))
        self.assertEqual([entry[:3] for entry in algorithm.log], [
            ("send", 0, 0), ("send", 1, 0),
            ("receive", 0, 0), ("send", 0, 1),
            ("receive", 1, 0), ("send", 1, 1), ("receive", 1, 1), ("send", 1, 2),
            ("receive", 0, 1), ("send", 0, 2), ("receive", 0, 2), ("receive", 1, 2),
        ])

    def test_nothing_is_modified(self):
        choices, given = [3, 1, 4, 1, 5], [2, 0, 1]
        run_late(path(3), (2, 3), Spread(2), choices, given=given)
        self.assertEqual((choices, given), ([3, 1, 4, 1, 5], [2, 0, 1]))

    def test_errors_in_their_order(self):
        for given in [None, [1], []]:
            with self.assertRaises(InvalidBounds):
                run_late(path(3), (1, 3), Echo(), [], given=given)
            with self.assertRaises(InvalidBounds):
                run_late(path(3), (2, 2), Echo(), [1], given=given)
        for given in [[], [1], [1, 2, 3, 4]]:
            with self.assertRaises(InvalidInput):
                run_late(path(3), (2, 3), Echo(), [], given=given)


if __name__ == "__main__":
    unittest.main()
