import unittest

from nearby.balls import Gather, GatherView, ball_of, output_in_ball, output_in_view, view_of
from nearby.building import grid, path, renamed, ring, star, turned
from nearby.errors import InvalidBall, InvalidInput
from nearby.joining import Then
from nearby.network import Network, bounds_of, distances
from nearby.running import run, states_after
from nearby.simple import Echo, Names, Quiet, Spread
from tests.helpers import ByBounds, Diary, Mixed, NamedMixed, complete, inputs_for, samples, scattered


def view_by_words(network, node, depth, given):
    """The view of a node, part by part as the document says it."""
    view = (network.degree(node), None if given is None else given[node])
    if depth == 0:
        return view
    parts = []
    for port, other in enumerate(network.neighbors(node)):
        parts.append((network.far_port(node, port), view_by_words(network, other, depth - 1, given)))
    return view + (tuple(parts),)


def ball_by_words(network, node, radius, given):
    """The ball of a node, element by element as the document says it."""
    away, names, entries = distances(network, node), network.names(), []
    for other in range(network.size()):
        if away[other] is None or away[other] > radius:
            continue
        ports = []
        for port, far in enumerate(network.neighbors(other)):
            known = away[other] < radius or away[far] < radius
            ports.append((names[far], network.far_port(other, port)) if known else None)
        told = None if given is None else given[other]
        entries.append((names[other], away[other], network.degree(other), told, tuple(ports)))
    return (names[node], radius, tuple(sorted(entries, key=lambda entry: (entry[1], entry[0]))))


def is_data(value):
    return value is None or type(value) in (int, str) or type(value) is tuple and all(is_data(part) for part in value)


class BallTest(unittest.TestCase):
    def test_by_hand(self):
        network = Network([10, 5, 7, 2], [[1, 2], [2, 0], [0, 1, 3], [2]])
        given = ["a", None, (1,), -4]
        self.assertEqual(ball_of(network, 0, 0, given=given), (10, 0, ((10, 0, 2, "a", (None, None)),)))
        self.assertEqual(ball_of(network, 0, 1, given=given), (10, 1, (
            (10, 0, 2, "a", ((5, 1), (7, 0))),
            (5, 1, 2, None, (None, (10, 0))),
            (7, 1, 3, (1,), ((10, 1), None, None)),
        )))
        self.assertEqual(ball_of(network, 0, 2), (10, 2, (
            (10, 0, 2, None, ((5, 1), (7, 0))),
            (5, 1, 2, None, ((7, 1), (10, 0))),
            (7, 1, 3, None, ((10, 1), (5, 0), (2, 0))),
            (2, 2, 1, None, ((7, 2),)),
        )))
        self.assertEqual(ball_of(network, 3, 1), (2, 1, (
            (2, 0, 1, None, ((7, 2),)), (7, 1, 3, None, (None, None, (2, 0))),
        )))

    def test_last_links_are_not_known(self):
        ball = ball_of(ring(4), 0, 2)
        self.assertEqual([entry[:2] for entry in ball[2]], [(0, 0), (1, 1), (3, 1), (2, 2)])
        ball = ball_of(ring(5), 0, 2)
        self.assertEqual(ball[2][3], (2, 2, 2, None, ((1, 1), None)))
        self.assertEqual(ball[2][4], (3, 2, 2, None, (None, (4, 0))))

    def test_not_connected(self):
        network = scattered()
        self.assertEqual(ball_of(network, 2, 0), (30, 0, ((30, 0, 0, None, ()),)))
        self.assertEqual(ball_of(network, 2, 3), (30, 3, ((30, 0, 0, None, ()),)))
        self.assertEqual([entry[0] for entry in ball_of(network, 4, 9)[2]], [7, 9])
        self.assertEqual([entry[:2] for entry in ball_of(network, 5, 5)[2]], [(21, 0), (0, 1), (5, 1), (12, 2)])

    def test_every_ball(self):
        for network in samples():
            for given in [None, inputs_for(network)]:
                for node in range(network.size()):
                    for radius in [0, 1, 2, 3, 7]:
                        ball = ball_of(network, node, radius, given=given)
                        self.assertEqual(ball, ball_by_words(network, node, radius, given))
                        self.assertTrue(is_data(ball))

    def test_gather(self):
        for network in samples():
            bounds = bounds_of(network)
            for given in [None, inputs_for(network), ["x", None, (1, (2,))] * 5]:
                if given is not None:
                    given = given[:network.size()]
                for radius in [0, 1, 2, 3, 6]:
                    balls = [ball_of(network, node, radius, given=given) for node in range(network.size())]
                    self.assertEqual(run(network, bounds, Gather(radius), given=given), balls)

    def test_named_and_rounds(self):
        for count in [0, 3]:
            self.assertEqual((Gather(count).named, Gather(count).rounds((2, 5))), (True, count))
            self.assertEqual((GatherView(count).named, GatherView(count).rounds((2, 5))), (False, count))

    def test_letters_are_data_one_for_each_port(self):
        network = scattered()
        for algorithm in [Gather(2), GatherView(2)]:
            for rounds in [0, 1, 2]:
                for node, state in enumerate(states_after(network, (3, 31), algorithm, rounds)):
                    letters = algorithm.letters((3, 31), state)
                    self.assertEqual(len(letters), network.degree(node))
                    self.assertTrue(is_data(state) and all(is_data(letter) for letter in letters))

    def test_inputs(self):
        given = [3, 1, 2]
        for look in [ball_of, view_of]:
            look(path(3), 1, 2, given=given)
            self.assertEqual(given, [3, 1, 2])
            for wrong in [[], [1, 2], [1, 2, 3, 4]]:
                for depth in [0, 2]:
                    with self.assertRaises(InvalidInput):
                        look(path(3), 1, depth, given=wrong)


class ViewTest(unittest.TestCase):
    def test_by_hand(self):
        network = Network([9, 4, 6], [[2, 1], [0], [0]])
        given = [8, "b", None]
        self.assertEqual(view_of(network, 0, 0, given=given), (2, 8))
        self.assertEqual(view_of(network, 1, 0), (1, None))
        self.assertEqual(view_of(network, 0, 1, given=given), (2, 8, ((0, (1, None)), (0, (1, "b")))))
        self.assertEqual(view_of(network, 1, 2, given=given), (
            1, "b", ((1, (2, 8, ((0, (1, None)), (0, (1, "b"))))),),
        ))

    def test_without_ports(self):
        network = scattered()
        self.assertEqual(view_of(network, 2, 0), (0, None))
        for depth in [1, 2, 9]:
            self.assertEqual(view_of(network, 2, depth), (0, None, ()))
            self.assertEqual(view_of(path(1), 0, depth, given=[(5,)]), (0, (5,), ()))

    def test_every_view(self):
        for network in samples():
            for given in [None, inputs_for(network), [node % 2 for node in range(network.size())]]:
                for node in range(network.size()):
                    for depth in [0, 1, 2, 3, 5]:
                        view = view_of(network, node, depth, given=given)
                        self.assertEqual(view, view_by_words(network, node, depth, given))
                        self.assertTrue(is_data(view))

    def test_gather_view(self):
        for network in samples():
            for given in [None, inputs_for(network)]:
                for depth in [0, 1, 2, 4]:
                    views = [view_of(network, node, depth, given=given) for node in range(network.size())]
                    outputs = run(network, bounds_of(network), GatherView(depth), given=given)
                    self.assertEqual(outputs, views)

    def test_nodes_that_cannot_be_told_apart(self):
        views = [view_of(ring(5), node, 4) for node in range(5)] + [view_of(ring(8), 3, 4)]
        self.assertEqual(views, views[:1] * 6)

    def test_names_do_not_count(self):
        network = scattered()
        other = renamed(network, [3, 6, 0, 2, 1, 9, 4])
        self.assertEqual(view_of(network, 1, 4), view_of(other, 1, 4))
        self.assertNotEqual(ball_of(network, 1, 0), ball_of(other, 1, 0))


class OutputTest(unittest.TestCase):
    def algorithms(self):
        nameless = [
            Quiet(("x", 1)), Echo(), Mixed(0), Mixed(1), Mixed(3), GatherView(2), Diary(False, 2),
            Then(Mixed(2), Spread(1)), Then(Echo(), GatherView(1)),
        ]
        named = [
            Names(0), Names(2), NamedMixed(3), Diary(True, 2), Gather(2), Then(NamedMixed(1), Mixed(2)), ByBounds(),
        ]
        return nameless, named

    def test_outputs_in_balls(self):
        nameless, named = self.algorithms()
        for network in samples():
            bounds = (bounds_of(network)[0], bounds_of(network)[1] + 3)
            for algorithm in nameless + named:
                rounds = algorithm.rounds(bounds)
                for given in [None, inputs_for(network)]:
                    outputs = run(network, bounds, algorithm, given=given)
                    for more in [0, 1, 3]:
                        for node, output in enumerate(outputs):
                            ball = ball_of(network, node, rounds + more, given=given)
                            self.assertEqual(output_in_ball(ball, bounds, algorithm), output)

    def test_outputs_in_views(self):
        nameless, _ = self.algorithms()
        for network in samples():
            bounds = (bounds_of(network)[0], bounds_of(network)[1] + 3)
            for algorithm in nameless:
                rounds = algorithm.rounds(bounds)
                for given in [None, inputs_for(network)]:
                    outputs = run(network, bounds, algorithm, given=given)
                    for more in [0, 1, 2]:
                        for node, output in enumerate(outputs):
                            view = view_of(network, node, rounds + more, given=given)
                            self.assertEqual(output_in_view(view, bounds, algorithm), output)

    def test_spread_with_inputs(self):
        network = grid(3, 4)
        given = [(5 * node + 3) % 12 - 4 for node in range(12)]
        outputs = run(network, (4, 12), Spread(3), given=given)
        for node in range(12):
            ball = ball_of(network, node, 3, given=given)
            self.assertEqual(output_in_ball(ball, (4, 12), Spread(3)), outputs[node])
            view = view_of(network, node, 3, given=given)
            self.assertEqual(output_in_view(view, (4, 12), Spread(3)), outputs[node])

    def test_gathered_views_are_as_good(self):
        network = scattered()
        views = run(network, (3, 31), GatherView(4))
        outputs = run(network, (3, 31), Mixed(4))
        self.assertEqual([output_in_view(view, (3, 31), Mixed(4)) for view in views], outputs)
        balls = run(network, (3, 31), Gather(4))
        outputs = run(network, (3, 31), NamedMixed(4))
        self.assertEqual([output_in_ball(ball, (3, 31), NamedMixed(4)) for ball in balls], outputs)

    def test_too_small_balls(self):
        for network in samples():
            for algorithm in [Names(1), Mixed(3), Then(Names(1), Mixed(1))]:
                bounds = bounds_of(network)
                for radius in range(algorithm.rounds(bounds)):
                    with self.assertRaises(InvalidBall):
                        output_in_ball(ball_of(network, 0, radius), bounds, algorithm)

    def test_too_small_views(self):
        for network in [path(2), ring(4), star(5), complete(4)]:
            for algorithm in [Mixed(1), Mixed(3), Then(Mixed(2), Mixed(2))]:
                bounds = bounds_of(network)
                for depth in range(algorithm.rounds(bounds)):
                    with self.assertRaises(InvalidBall):
                        output_in_view(view_of(network, 0, depth), bounds, algorithm)

    def test_views_of_nodes_without_ports(self):
        network = Network([4, 1], [[], []])
        given = [5, 2]
        for rounds in [0, 1, 2, 7]:
            outputs = run(network, (1, 5), Mixed(rounds), given=given)
            for depth in [1, 2]:
                for node in range(2):
                    view = view_of(network, node, depth, given=given)
                    self.assertEqual(output_in_view(view, (1, 5), Mixed(rounds)), outputs[node])
        view = view_of(network, 0, 0, given=given)
        self.assertEqual(output_in_view(view, (1, 5), Mixed(0)), run(network, (1, 5), Mixed(0), given=given)[0])
        with self.assertRaises(InvalidBall):
            output_in_view(view, (1, 5), Mixed(1))

    def test_receives_once_for_each_round_without_ports(self):
        view = view_of(path(1), 0, 1)
        self.assertEqual(output_in_view(view, (1, 1), Diary(False, 3))[5], ((), (), ()))
        self.assertEqual(output_in_ball(ball_of(path(1), 0, 3), (1, 1), Diary(True, 3))[5], ((), (), ()))

    def test_deep_views_of_many_nodes(self):
        orders = [list(range(count))[::-1] for count in [2, 3, 3, 3, 2, 3, 4, 4, 4, 3, 3, 4, 4, 4, 3, 2, 3, 3, 3, 2]]
        network = turned(grid(4, 5), orders)
        outputs = run(network, (4, 20), Mixed(30))
        for node in [0, 7, 19]:
            self.assertEqual(output_in_view(view_of(network, node, 31), (4, 20), Mixed(30)), outputs[node])
        self.assertEqual(output_in_view(view_of(complete(6), 2, 25), (5, 6), Spread(0)), None)


if __name__ == "__main__":
    unittest.main()
