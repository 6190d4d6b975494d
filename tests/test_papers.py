import copy
import itertools
import random
import unittest

from nearby.balls import ball_of, view_of
from nearby.building import grid, path, renamed, ring, star, turned
from nearby.coloring import Colors
from nearby.errors import InvalidInput, TooLarge
from nearby.matching import Matching
from nearby.network import Network, bounds_of, distances
from nearby.papers import check_paper, rule_of_paper, two_paths
from nearby.running import run
from nearby.sets import Independent
from nearby.simple import Names
from nearby.tasks import answers, solves
from tests.helpers import complete, scattered, tangled

TASKS = [
    ("colors", 1), ("colors", 2), ("colors", 3), ("independent",), ("matching",), ("cover", 1), ("cover", 2),
    ("dominating", 1), ("dominating", 2),
]


def seen_in(paper):
    """The balls or views of the nodes, a list for each network."""
    _, radius, named, networks = paper
    look = ball_of if named else view_of
    return [[look(network, node, radius) for node in range(network.size())] for network in networks]


def rules_by_words(paper):
    """All rules for the balls or views that solve the task."""
    task, _, _, networks = paper
    rows = seen_in(paper)
    degrees = {seen: network.degree(node) for network, row in zip(networks, rows) for node, seen in enumerate(row)}
    for chosen in itertools.product(*[answers(task, degree) for degree in degrees.values()]):
        rule = dict(zip(degrees, chosen))
        if all(solves(task, network, [rule[seen] for seen in row]) for network, row in zip(networks, rows)):
            yield rule


def has_coloring(network, count, colors):
    """Whether the colors of the first nodes can be continued to a coloring."""
    node = len(colors)
    if node == network.size():
        return True
    near = [colors[other] for other in network.neighbors(node) if other < node]
    return any(has_coloring(network, count, colors + [color]) for color in range(count) if color not in near)


def crossed(count, names):
    """A path with names and with every second node turned."""
    network = renamed(path(count), names)
    orders = [list(range(network.degree(node)))[::-1 if node % 2 else 1] for node in range(count)]
    return turned(network, orders)


class PapersTest(unittest.TestCase):
    def check(self, paper, right):
        before = copy.copy(paper[3])
        self.assertIs(check_paper(paper), right, paper[:3])
        rule = rule_of_paper(paper)
        self.assertEqual(paper[3], before)
        if right:
            self.assertIsNone(rule)
            return
        self.assertIs(type(rule), dict)
        rows = seen_in(paper)
        # The views may be deep, so they are compared and not put into a set.
        for seen in rule:
            self.assertTrue(any(seen in row for row in rows))
        for network, row in zip(paper[3], rows):
            self.assertTrue(all(seen in rule for seen in row))
            outputs = [rule[seen] for seen in row]
            self.assertTrue(all(type(output) is int for output in outputs))
            self.assertIs(solves(paper[0], network, outputs), True)

    def test_against_all_rules(self):
        choose = random.Random(3)
        found = {True: 0, False: 0}
        while min(found.values()) < 60:
            count = choose.choice([1, 2, 3, 4])
            bases = [path(count), ring(count + 2), star(count), tangled(choose.randrange(999), count + 1, 3)]
            networks = []
            for _ in range(choose.choice([1, 1, 2, 3])):
                base = choose.choice(bases)
                networks.append(renamed(base, choose.sample(range(base.size() + 1), base.size())))
            paper = (choose.choice(TASKS), choose.randrange(3), choose.choice([True, False]), networks)
            kinds = len({seen for row in seen_in(paper) for seen in row})
            if kinds <= 6:
                right = next(rules_by_words(paper), None) is None
                self.check(paper, right)
                found[right] += 1

    def test_one_named_network_can_always_be_solved(self):
        # All balls differ, so a rule may give any solution.
        for network in [path(1), path(6), ring(7), grid(3, 4), star(7), scattered(), complete(7)]:
            for radius in [0, 1, 3]:
                for task in [("independent",), ("matching",), ("cover", 1), ("dominating", 1), ("colors", 7)]:
                    self.check((task, radius, True, [network]), False)

    def test_colors_of_one_network(self):
        for network, least in [(path(1), 1), (path(5), 2), (ring(6), 2), (ring(7), 3), (complete(7), 7)]:
            for count in range(1, 9):
                self.check((("colors", count), 1, True, [network]), count < least)
        self.check((("colors", 100000), 1, True, [complete(5)]), False)

    def test_colors_of_networks_without_order(self):
        for seed in range(120):
            network = tangled(seed, 7 + seed % 4, 3 + seed % 4)
            for count in [2, 3, 4]:
                right = not has_coloring(network, count, [])
                self.check((("colors", count), seed % 3, True, [network]), right)

    def test_views_on_a_ring(self):
        # All nodes of a ring have the same views, of whatever depth.
        for depth in [0, 1, 5]:
            for task, right in [
                (("colors", 2), True), (("colors", 90), True), (("independent",), True), (("matching",), True),
                (("cover", 1), True), (("cover", 2), False), (("dominating", 2), True), (("dominating", 3), False),
            ]:
                self.check((task, depth, False, [ring(6)]), right)
        self.check((("colors", 1), 2, False, [path(1)]), False)

    def test_views_tell_more_when_they_are_deeper(self):
        # From depth 2 on, the middle of a path of 7 looks different from the nodes beside it.
        self.check((("colors", 2), 1, False, [path(7)]), True)
        self.check((("colors", 2), 2, False, [path(7)]), False)
        self.check((("matching",), 0, False, [path(2)]), False)
        self.check((("independent",), 9, False, [path(2)]), True)
        # A degree is seen at once.
        self.check((("independent",), 0, False, [path(3)]), False)

    def test_views_may_be_deep(self):
        network = crossed(7, list(range(7)))
        self.check((("colors", 2), 4, False, [network]), False)
        self.check((("colors", 2), 4, False, [network, path(1), path(3)]), False)

    def test_equal_balls_in_different_networks(self):
        first = renamed(path(3), [0, 1, 2])
        second = renamed(path(3), [0, 2, 1])
        # With the radius 0 the middle has a ball of its own, by its degree.
        self.check((("colors", 2), 0, True, [first]), False)
        self.check((("colors", 2), 0, True, [first, second]), False)
        # In the ring of 3 names, each name has one ball in all orders.
        rings = [renamed(ring(4), list(names)) for names in itertools.permutations(range(4))]
        self.check((("colors", 3), 0, True, rings), True)
        self.check((("colors", 4), 0, True, rings), False)
        self.check((("independent",), 0, True, rings), True)
        self.check((("matching",), 0, True, rings), True)
        self.check((("cover", 1), 0, True, rings), True)
        self.check((("cover", 2), 0, True, rings), False)
        self.check((("dominating", 1), 0, True, rings), False)
        # Two nodes dominate a ring of 6 if they are opposite; no two are so in both of these.
        rings_of_six = [ring(6), renamed(ring(6), [0, 3, 1, 2, 4, 5])]
        self.check((("dominating", 1), 0, True, rings_of_six), True)
        self.check((("dominating", 1), 0, True, rings_of_six[1:]), False)
        self.check((("dominating", 2), 0, True, rings_of_six), False)
        # A wider look tells the orders apart, but not always enough.
        self.check((("colors", 3), 1, True, rings), False)

    def test_equal_views_in_different_networks(self):
        for task in [("colors", 2), ("independent",), ("matching",), ("cover", 1)]:
            self.check((task, 1, False, [path(4), ring(5)]), True)
        self.check((("cover", 2), 1, False, [path(2), ring(4), star(4)]), False)
        self.check((("cover", 1), 1, False, [star(4), star(3)]), False)
        self.check((("dominating", 1), 0, False, [path(2), star(4)]), True)

    def test_without_networks_every_rule_is_right(self):
        for named in [True, False]:
            self.assertIs(check_paper((("colors", 1), 2, named, [])), False)
            self.assertEqual(rule_of_paper((("colors", 1), 2, named, [])), {})

    def test_algorithms_make_rules(self):
        networks = [renamed(path(3), [0, 2, 1]), renamed(ring(3), [2, 1, 0])]
        for task, algorithm in [(("colors", 3), Colors()), (("independent",), Independent()), (("matching",), Matching())]:
            radius = algorithm.rounds((2, 3))
            for network in networks:
                self.assertTrue(solves(task, network, run(network, (2, 3), algorithm)))
            self.check((task, radius, True, networks), False)
        self.assertEqual(run(path(2), (1, 2), Names(0)), [(0,), (1,)])

    def test_results_are_new(self):
        paper = (("colors", 2), 1, True, [path(3)])
        rule_of_paper(paper).clear()
        self.assertEqual(len(rule_of_paper(paper)), 3)


class TooLargeTest(unittest.TestCase):
    def check_too_large(self, paper, large):
        for ask in [check_paper, rule_of_paper]:
            if large:
                with self.assertRaises(TooLarge):
                    ask(paper)
            else:
                ask(paper)

    def test_more_than_forty(self):
        for task in [("colors", 2), ("independent",), ("matching",)]:
            self.check_too_large((task, 1, True, [path(40)]), False)
            self.check_too_large((task, 1, True, [path(41)]), True)
            self.check_too_large((task, 1, True, [path(20), renamed(path(20), list(range(20, 40)))]), False)
            self.check_too_large((task, 1, True, [path(20), renamed(path(21), list(range(20, 41)))]), True)
            # The same balls count once, and so do views.
            self.check_too_large((task, 1, True, [path(40)] * 3), False)
            self.check_too_large((task, 1, False, [path(90), ring(50)]), False)
            self.check_too_large((task, 100, False, [path(40), ring(50)]), True)
            self.check_too_large((task, 100, False, [path(39), ring(50)]), False)

    def test_more_than_fourteen(self):
        for task in [("cover", 1), ("cover", 2), ("dominating", 1), ("dominating", 2)]:
            self.check_too_large((task, 1, True, [path(14)]), False)
            self.check_too_large((task, 1, True, [path(15)]), True)
            self.check_too_large((task, 0, True, [path(7), renamed(path(7), list(range(7, 14)))]), False)
            self.check_too_large((task, 0, True, [path(7), renamed(path(8), list(range(7, 15)))]), True)
            self.check_too_large((task, 20, False, [path(14)]), False)
            self.check_too_large((task, 20, False, [path(15)]), True)

    def test_as_solves_does(self):
        for task in [("cover", 1), ("dominating", 3)]:
            self.check_too_large((task, 0, False, [ring(16)]), False)
            self.check_too_large((task, 0, False, [ring(17)]), True)
            self.check_too_large((task, 0, False, [path(2), ring(17)]), True)
        for task in [("colors", 2), ("independent",), ("matching",)]:
            self.check_too_large((task, 0, False, [ring(17)]), False)


class TwoPathsTest(unittest.TestCase):
    def test_the_form(self):
        for radius in range(1, 13):
            paper = two_paths(radius)
            self.assertIs(type(paper), tuple)
            task, told, named, networks = paper
            self.assertEqual((task, told), (("colors", 2), radius))
            self.assertIs(named, True)
            self.assertIs(type(networks), list)
            self.assertEqual(len(networks), 2)
            for network in networks:
                self.assertIsInstance(network, Network)
                self.assertLessEqual(network.size(), 6 * radius + 12)
                self.assertEqual(len(network.links()), network.size() - 1)
                self.assertNotIn(None, distances(network, 0))
                self.assertLessEqual(bounds_of(network)[0], 2)

    def test_equal_balls_at_an_even_and_an_odd_distance(self):
        for radius in range(1, 13):
            parts = []
            for network in two_paths(radius)[3]:
                balls = [ball_of(network, node, radius) for node in range(network.size())]
                away = [distances(network, node) for node in range(network.size())]
                parts.append({
                    (balls[node], balls[other]): away[node][other] % 2
                    for node in range(network.size()) for other in range(network.size())
                })
            both = [pair for pair in parts[0] if pair in parts[1] and parts[0][pair] != parts[1][pair]]
            self.assertTrue(both)

    def test_the_papers_are_right(self):
        for radius in range(1, 7):
            try:
                self.assertIs(check_paper(two_paths(radius)), True)
                self.assertIsNone(rule_of_paper(two_paths(radius)))
            except TooLarge:
                self.assertGreater(radius, 3)
        for radius in range(2, 7):
            # A path alone can be colored.
            for network in two_paths(radius)[3]:
                self.assertIs(check_paper((("colors", 2), radius, True, [network])), False)

    def test_a_radius_below_one(self):
        for radius in [0, -1, -7]:
            with self.assertRaises(InvalidInput):
                two_paths(radius)

    def test_lists_are_new(self):
        two_paths(2)[3].clear()
        self.assertEqual(len(two_paths(2)[3]), 2)


if __name__ == "__main__":
    unittest.main()
