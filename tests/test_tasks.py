import itertools
import unittest

from nearby.building import grid, path, ring, star
from nearby.errors import TooLarge
from nearby.network import Network
from nearby.tasks import answers, least_cover, least_dominating, solves
from tests.helpers import changed, complete, crooked_grid, samples, scattered, tangled


def sets_of(network):
    """All sets of nodes, the small ones first."""
    nodes = range(network.size())
    return itertools.chain.from_iterable(itertools.combinations(nodes, count) for count in range(len(nodes) + 1))


def covers(network, nodes):
    return all(node in nodes or other in nodes for node, other in network.links())


def dominates(network, nodes):
    return all(node in nodes or set(nodes) & set(network.neighbors(node)) for node in range(network.size()))


def least_by_words(network, fits):
    return len(next(nodes for nodes in sets_of(network) if fits(network, nodes)))


class AnswersTest(unittest.TestCase):
    def test_each_sort(self):
        for degree in [0, 1, 2, 6]:
            self.assertEqual(answers(("colors", 1), degree), [0])
            self.assertEqual(answers(("colors", 4), degree), [0, 1, 2, 3])
            self.assertEqual(answers(("independent",), degree), [0, 1])
            self.assertEqual(answers(("cover", 1), degree), [0, 1])
            self.assertEqual(answers(("cover", 3), degree), [0, 1])
            self.assertEqual(answers(("dominating", 2), degree), [0, 1])
        self.assertEqual(answers(("matching",), 0), [-1])
        self.assertEqual(answers(("matching",), 1), [-1, 0])
        self.assertEqual(answers(("matching",), 4), [-1, 0, 1, 2, 3])

    def test_lists_are_new(self):
        answers(("matching",), 2).clear()
        answers(("cover", 1), 2).clear()
        self.assertEqual(answers(("cover", 1), 2), [0, 1])
        self.assertIs(type(answers(("colors", 2), 0)), list)


class SolvesTest(unittest.TestCase):
    def check(self, task, network, right, wrong):
        """The lists in `right` solve the task; those in `wrong`, and lists of other lengths, do not."""
        for outputs in right:
            before = list(outputs)
            self.assertIs(solves(task, network, outputs), True, outputs)
            self.assertIs(solves(task, network, outputs[:-1]), False)
            self.assertIs(solves(task, network, outputs + outputs[:1]), False)
            self.assertIs(solves(task, network, []), False)
            self.assertEqual(outputs, before)
        for outputs in wrong:
            self.assertIs(solves(task, network, outputs), False, outputs)

    def test_colors(self):
        self.check(("colors", 2), path(4), [[0, 1, 0, 1], [1, 0, 1, 0]], [
            [0, 1, 0, 0], [0, 1, 0, 2], [0, 1, 0, -1], [0, 0, 1, 0],
        ])
        self.check(("colors", 3), path(4), [[0, 1, 0, 2]], [[0, 1, 0, 3]])
        self.check(("colors", 1), path(1), [[0]], [[1], [-1]])

    def test_independent(self):
        self.check(("independent",), path(4), [[1, 0, 1, 0], [1, 0, 0, 1]], [
            [1, 0, 0, 0], [1, 0, 1, 1], [0, 0, 0, 1], [1, 0, 2, 0], [1, 0, 1, -1],
        ])
        self.check(("independent",), path(1), [[1]], [[0], [2]])

    def test_matching(self):
        self.check(("matching",), path(4), [[0, 0, 1, 0], [-1, 1, 0, -1]], [
            [0, 0, -1, -1], [0, 0, 1, -1], [0, 0, 1, 1], [0, 0, 1, -2], [-1, -1, -1, -1],
        ])
        self.check(("matching",), path(1), [[-1]], [[0], [1]])

    def test_covers_with_factors(self):
        # The least cover of a star of 4 has its center alone.
        self.check(("cover", 1), star(4), [[1, 0, 0, 0]], [[0, 0, 0, 0], [1, 1, 0, 0], [0, 1, 1, 1], [1, 0, 0, 2]])
        self.check(("cover", 2), star(4), [[1, 0, 0, 0], [1, 1, 0, 0]], [[1, 1, 1, 0], [0, 1, 1, 1], [-1, 1, 1, 1]])
        self.check(("cover", 3), star(4), [[1, 1, 1, 0], [0, 1, 1, 1]], [[1, 1, 1, 1], [0, 1, 1, 0], [3, 0, 0, 0]])
        self.check(("cover", 1), path(1), [[0]], [[1]])
        self.check(("cover", 50), path(1), [[0]], [[1]])
        self.check(("cover", 1), Network([3, 9], [[], []]), [[0, 0]], [[0, 1]])

    def test_dominating_with_factors(self):
        self.check(("dominating", 1), star(4), [[1, 0, 0, 0]], [[0, 0, 0, 0], [1, 1, 0, 0], [0, 1, 1, 1], [2, 0, 0, 0]])
        self.check(("dominating", 2), star(4), [[1, 0, 0, 0], [1, 0, 1, 0]], [[1, 1, 1, 0], [0, 1, 1, 0]])
        self.check(("dominating", 1), path(4), [[1, 0, 0, 1], [0, 1, 1, 0], [1, 0, 1, 0]], [
            [0, 1, 0, 0], [1, 1, 0, 1], [0, 1, 2, 0], [0, 1, 1, -1],
        ])
        self.check(("dominating", 1), path(1), [[1]], [[0]])
        self.check(("dominating", 1), Network([3, 9], [[], []]), [[1, 1]], [[0, 1]])

    def test_all_lists_for_sets(self):
        for network in [path(5), ring(5), grid(2, 3), scattered()]:
            least = {"cover": least_by_words(network, covers), "dominating": least_by_words(network, dominates)}
            for outputs in itertools.product([0, 1], repeat=network.size()):
                nodes = [node for node, output in enumerate(outputs) if output]
                for sort, fits in [("cover", covers), ("dominating", dominates)]:
                    for factor in [1, 2, 3]:
                        right = fits(network, nodes) and len(nodes) <= factor * least[sort]
                        self.assertIs(solves((sort, factor), network, list(outputs)), right)

    def test_answers_that_fail_by_one_node(self):
        network = crooked_grid()
        for task, outputs in [
            (("colors", 2), [0, 1, 0, 1, 0, 1, 0, 1, 0]), (("independent",), [1, 0, 1, 0, 1, 0, 1, 0, 1]),
            (("cover", 1), [0, 1, 0, 1, 0, 1, 0, 1, 0]), (("dominating", 1), [0, 0, 1, 1, 0, 0, 0, 0, 1]),
        ]:
            self.assertIs(solves(task, network, outputs), True)
            for node in range(9):
                self.assertIs(solves(task, network, changed(outputs, node, 1 - outputs[node])), False)


class LeastTest(unittest.TestCase):
    def test_against_all_sets(self):
        networks = [network for network in samples() if network.size() <= 9] + [complete(6), grid(3, 4), path(11)]
        networks += [tangled(seed, 5 + seed % 7, 1 + seed % 6) for seed in range(40)]
        for network in networks:
            self.assertEqual(least_cover(network), least_by_words(network, covers))
            self.assertEqual(least_dominating(network), least_by_words(network, dominates))

    def test_nodes_without_links(self):
        network = Network([4, 8, 1, 6], [[1], [0], [], []])
        self.assertEqual(least_cover(network), 1)
        self.assertEqual(least_dominating(network), 3)
        self.assertEqual(least_cover(path(1)), 0)
        self.assertEqual(least_dominating(path(1)), 1)
        alone = Network(list(range(16)), [[] for _ in range(16)])
        self.assertEqual((least_cover(alone), least_dominating(alone)), (0, 16))

    def test_sixteen_nodes(self):
        for network, cover, dominating in [
            (path(16), 8, 6), (ring(16), 8, 6), (grid(4, 4), 8, 4), (star(16), 1, 1), (complete(16), 15, 1),
            (grid(2, 8), 8, 5),
        ]:
            self.assertEqual((least_cover(network), least_dominating(network)), (cover, dominating))

    def test_too_large(self):
        for network in [path(17), star(17), Network(list(range(17)), [[] for _ in range(17)])]:
            with self.assertRaises(TooLarge):
                least_cover(network)
            with self.assertRaises(TooLarge):
                least_dominating(network)
            for task in [("cover", 1), ("cover", 9), ("dominating", 1), ("dominating", 2)]:
                for outputs in [[1] * 17, [0] * 17, [], [2] * 17]:
                    with self.assertRaises(TooLarge):
                        solves(task, network, outputs)

    def test_other_tasks_are_never_too_large(self):
        self.assertIs(solves(("colors", 2), path(50), [0, 1] * 25), True)
        self.assertIs(solves(("independent",), path(50), [0, 1] * 25), True)
        self.assertIs(solves(("matching",), path(50), [0, 0] + [1, 0] * 24), True)
        self.assertIs(solves(("cover", 1), path(16), [0, 1] * 8), True)
        self.assertIs(solves(("dominating", 2), path(16), [0, 1] * 8), True)


if __name__ == "__main__":
    unittest.main()
