import itertools
import unittest

from nearby.balls import ball_of, output_in_ball, output_in_view, view_of
from nearby.building import grid, path, renamed, ring, star
from nearby.checks import Content, least_radius
from nearby.coloring import Colors
from nearby.errors import TooLarge
from nearby.late import run_late
from nearby.matching import Matching
from nearby.network import Network, bounds_of
from nearby.papers import check_paper, two_paths
from nearby.running import run, states_after
from nearby.sets import Independent
from nearby.tasks import solves
from tests.helpers import changed, complete, crooked_grid, is_data, many, ports_of, samples, scattered


def content_by_words(task, network, outputs):
    """The list of 1 for content nodes and 0 for others."""
    told = []
    for node, answer in enumerate(outputs):
        near = [(port, other, outputs[other]) for port, other in ports_of(network, node)]
        if task[0] == "colors":
            content = answer in range(task[1]) and all(far != answer for _, _, far in near)
        elif task[0] == "independent":
            content = answer == 1 and all(far != 1 for _, _, far in near)
            content = content or answer == 0 and any(far == 1 for _, _, far in near)
        elif answer == -1:
            content = all(far in range(network.degree(other)) for _, other, far in near)
        else:
            content = any(port == answer and far == network.far_port(node, port) for port, _, far in near)
        told.append(1 if content else 0)
    return told


TASKS = [("colors", 1), ("colors", 2), ("colors", 3), ("independent",), ("matching",)]


class ContentTest(unittest.TestCase):
    def check(self, task, network, outputs):
        before = list(outputs)
        told = run(network, bounds_of(network), Content(task), given=outputs)
        self.assertEqual(told, content_by_words(task, network, outputs))
        self.assertIs(all(told), solves(task, network, outputs))
        self.assertEqual(outputs, before)
        return told

    def test_all_lists_on_small_networks(self):
        networks = [path(1), path(2), path(4), ring(3), ring(4), star(4), Network([4, 2, 9], [[], [2], [1]])]
        for network in networks:
            for task in TASKS:
                found = set()
                for outputs in itertools.product(range(-2, 4), repeat=network.size()):
                    found.add(all(self.check(task, network, list(outputs))))
                self.assertIn(False, found)

    def test_answers_that_solve_and_that_differ_at_one_node(self):
        for network in many():
            bounds = bounds_of(network)
            for task, algorithm in [
                (("colors", bounds[0] + 1), Colors()), (("independent",), Independent()), (("matching",), Matching()),
            ]:
                outputs = run(network, bounds, algorithm)
                self.assertEqual(self.check(task, network, outputs), [1] * network.size())
                for node in range(network.size()):
                    for answer in [-7, -2, -1, 0, 1, 2, 5, bounds[0], bounds[0] + 1, 100]:
                        self.check(task, network, changed(outputs, node, answer))

    def test_by_hand(self):
        network = renamed(path(4), [3, 9, 1, 4])
        for task, outputs, expected in [
            (("colors", 2), [0, 1, 0, 1], [1, 1, 1, 1]), (("colors", 2), [0, 1, 1, 0], [1, 0, 0, 1]),
            (("colors", 2), [0, 1, 2, 1], [1, 1, 0, 1]), (("colors", 2), [-1, 1, 0, 1], [0, 1, 1, 1]),
            (("independent",), [1, 0, 0, 1], [1, 1, 1, 1]), (("independent",), [1, 1, 0, 0], [0, 0, 1, 0]),
            (("independent",), [1, 0, 2, 0], [1, 1, 0, 0]), (("matching",), [0, 0, 1, 0], [1, 1, 1, 1]),
            (("matching",), [-1, 1, 0, -1], [1, 1, 1, 1]), (("matching",), [-1, -1, 1, 0], [0, 0, 1, 1]),
            (("matching",), [0, 1, 0, -1], [0, 1, 1, 1]), (("matching",), [1, 0, 1, 0], [0, 0, 1, 1]),
            # 5 is no port of the neighbor, so the node without a partner is not content beside it.
            (("matching",), [-1, 5, 1, 0], [0, 0, 1, 1]), (("matching",), [-1, -2, 1, 0], [0, 0, 1, 1]),
            (("matching",), [-1, 1, 1, 0], [1, 0, 1, 1]),
        ]:
            self.assertEqual(self.check(task, network, outputs), expected)

    def test_nodes_alone(self):
        for task, answers, expected in [
            (("colors", 2), [0, 1, 2], [1, 1, 0]), (("independent",), [0, 1, 2], [0, 1, 0]),
            (("matching",), [0, -1, -2], [0, 1, 0]),
        ]:
            self.assertEqual(self.check(task, Network([4, 2, 9], [[], [], []]), answers), expected)

    def test_rounds_and_named(self):
        for task in TASKS:
            self.assertIs(Content(task).named, False)
            for bounds in [(1, 1), (6, 100000)]:
                self.assertEqual(Content(task).rounds(bounds), 1)

    def test_late_in_balls_and_in_views(self):
        for network in samples():
            bounds = bounds_of(network)
            given = [(3 * node + 1) % 4 - 1 for node in range(network.size())]
            for task in TASKS:
                algorithm = Content(task)
                outputs = run(network, bounds, algorithm, given=given)
                self.assertEqual(run_late(network, bounds, algorithm, [3, 9, 1, 4] * 4, given=given)[0], outputs)
                for node in range(network.size()):
                    ball = ball_of(network, node, 1, given=given)
                    self.assertEqual(output_in_ball(ball, bounds, algorithm), outputs[node])
                    view = view_of(network, node, 1, given=given)
                    self.assertEqual(output_in_view(view, bounds, algorithm), outputs[node])
                for count in [0, 1]:
                    states = states_after(network, bounds, algorithm, count, given=given)
                    self.assertTrue(all(map(is_data, states)))


def least_by_words(task, named, networks, most):
    for radius in range(most + 1):
        if check_paper((task, radius, named, networks)) is False:
            return radius
    return None


class LeastRadiusTest(unittest.TestCase):
    def test_against_papers(self):
        lists = [
            [path(1)], [path(2)], [path(3)], [path(5)], [renamed(path(4), [3, 9, 1, 4])], [ring(3)], [ring(5)],
            [star(4)], [scattered()], [crooked_grid()], [path(3), path(4)], [path(2), path(3), path(4)],
            [ring(3), ring(4)], [renamed(path(3), [0, 1, 2]), renamed(path(3), [1, 0, 2])], [path(4), star(4)],
            [renamed(ring(3), list(names)) for names in itertools.permutations([0, 1, 2])],
        ]
        found = set()
        for networks in lists:
            for task in TASKS:
                for named in [True, False]:
                    expected = least_by_words(task, named, networks, 4)
                    self.assertEqual(least_radius(task, named, networks), expected)
                    for most in [0, 1, 2]:
                        limited = expected if expected is not None and expected <= most else None
                        self.assertEqual(least_radius(task, named, networks, most=most), limited)
                    found.add(expected)
        self.assertLessEqual({0, 1, 2, None}, found)

    def test_by_hand(self):
        # One network with names: all balls differ already at the radius 0.
        self.assertEqual(least_radius(("matching",), True, [path(5)]), 0)
        self.assertEqual(least_radius(("colors", 2), True, [path(5)]), 0)
        self.assertIsNone(least_radius(("colors", 2), True, [ring(5)]))
        # Without names both ends of a path look alike, so both nodes of a path of 2 do.
        self.assertIsNone(least_radius(("independent",), False, [path(2)], most=20))
        self.assertEqual(least_radius(("independent",), False, [path(3)]), 0)
        self.assertEqual(least_radius(("matching",), False, [path(2)]), 0)
        self.assertEqual(least_radius(("colors", 3), False, [path(5)]), 1)
        self.assertIsNone(least_radius(("colors", 9), False, [ring(6)]))

    def test_two_paths(self):
        for radius in [1, 2, 3]:
            task, _, named, networks = two_paths(radius)
            self.assertIsNone(least_radius(task, named, networks, most=radius))
            found = least_radius(task, named, networks, most=8)
            self.assertEqual(found, least_by_words(task, named, networks, 8))
            self.assertGreater(found, radius)
        task, _, named, networks = two_paths(2)
        self.assertIsNone(least_radius(task, named, networks))
        self.assertIsNone(least_radius(task, named, networks, most=4))
        self.assertEqual(least_radius(task, named, networks, most=5), 5)

    def test_greater_limits(self):
        networks = [path(9), path(10)]
        task = ("colors", 2)
        self.assertEqual(least_radius(task, False, networks, most=9), least_by_words(task, False, networks, 9))
        self.assertIsNone(least_radius(("colors", 1), True, [path(2)], most=12))

    def test_covers_and_dominating_sets(self):
        for task in [("cover", 1), ("cover", 2), ("dominating", 1), ("dominating", 2)]:
            for networks in [[path(4)], [ring(5)], [path(3), path(5)], [star(5)]]:
                for named in [True, False]:
                    expected = least_by_words(task, named, networks, 4)
                    self.assertEqual(least_radius(task, named, networks), expected)

    def test_too_large(self):
        for task, networks in [
            (("colors", 3), [path(41)]), (("independent",), [ring(20), renamed(ring(21), list(range(30, 51)))]),
            (("cover", 1), [path(15)]), (("dominating", 2), [ring(17)]),
        ]:
            with self.assertRaises(TooLarge):
                least_radius(task, True, networks)
        # A radius of 0 is not too large here, and already solves the task.
        self.assertEqual(least_radius(("colors", 2), False, [path(2), Network([0, 1], [[], []])]), None)
        self.assertEqual(least_radius(("independent",), False, [path(1)] * 50), 0)
        # All the nodes inside look alike at the radius 0, but further out there are too many views.
        network = grid(8, 8)
        self.assertTrue(check_paper((("colors", 2), 0, False, [network])))
        with self.assertRaises(TooLarge):
            least_radius(("colors", 2), False, [network])
        self.assertIsNone(least_radius(("colors", 2), False, [network], most=0))

    def test_nothing_is_modified(self):
        networks = [path(3), complete(3)]
        before = list(networks)
        for _ in range(2):
            self.assertEqual(least_radius(("colors", 3), True, networks), 0)
        self.assertEqual(networks, before)


if __name__ == "__main__":
    unittest.main()
