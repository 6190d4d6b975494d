import unittest

from nearby.building import path, renamed
from nearby.errors import InvalidText
from nearby.netreader import network_text, read_network
from nearby.network import Network
from tests.helpers import samples, scattered


def parts_of(network):
    return network.names(), [network.neighbors(node) for node in range(network.size())]


class WritingTest(unittest.TestCase):
    def test_with_links(self):
        text = "node 12 0 5\nnode 5 12 0 21\nnode 30\nnode 0 21 5 12\nnode 7 9\nnode 21 5 0\nnode 9 7\n"
        self.assertEqual(network_text(scattered()), text)

    def test_without_links(self):
        self.assertEqual(network_text(path(1)), "node 0\n")
        self.assertEqual(network_text(Network([4, 2], [[], []])), "node 4\nnode 2\n")

    def test_written_and_read_again(self):
        for network in samples() + [renamed(path(2), [999999999, 100000000])]:
            self.assertEqual(parts_of(read_network(network_text(network))), parts_of(network))


class ReadingTest(unittest.TestCase):
    def wrong(self, text, line):
        with self.assertRaises(InvalidText) as caught:
            read_network(text)
        self.assertEqual(caught.exception.line, line, repr(text))

    def test_example(self):
        network = read_network("node 7 3\nnode 3 7\n")
        self.assertIs(type(network), Network)
        self.assertEqual(network.neighbors(1), [0])
        self.assertEqual(parts_of(network), ([7, 3], [[1], [0]]))

    def test_order_of_nodes_and_ports(self):
        network = read_network("node 5 2 0 9\nnode 0 5\nnode 9 5\nnode 2 5\n")
        self.assertEqual(parts_of(network), ([5, 0, 9, 2], [[3, 1, 2], [0], [0], [0]]))

    def test_skipped_lines(self):
        network = read_network("\n# two nodes\nnode 7 3\n\n#\n#node 7\n# \x0b\u00e9\nnode 3 7\n\n")
        self.assertEqual(parts_of(network), ([7, 3], [[1], [0]]))

    def test_no_newline_at_the_end(self):
        self.assertEqual(parts_of(read_network("node 7 3\nnode 3 7")), ([7, 3], [[1], [0]]))
        self.assertEqual(parts_of(read_network("node 7\n# end")), ([7], [[]]))

    def test_names_of_nine_digits_and_zero(self):
        self.assertEqual(parts_of(read_network("node 999999999 0\nnode 0 999999999")), ([999999999, 0], [[1], [0]]))

    def test_lines_of_another_form(self):
        lines = [
            "edge 1", "Node 1", "node", "node ", "nodes 1", " node 1", "node1", "node\t1", "node,1", "1 0",
            "node  1", "node 1 ", "node 1  0", " ", " # 1", "\t", "node 1#",
            "node 01", "node 00", "node 1 00", "node 1 05", "node +1", "node -1", "node 1 -0", "node 1 +0",
            "node 1234567890", "node 1 0000000000", "node 1 1000000000",
            "node x", "node 1 x", "node 1.0", "node 1_0", "node \u00b2", "node \u0661",
            "node 1\r", "node 1 0\x0b", "node 1\x0c", "\u2028",
        ]
        for line in lines:
            self.wrong(f"node 0\n{line}\nnode 2\n", 2)
            self.wrong(f"# first\n\nnode 0\n{line}", 4)

    def test_no_name(self):
        self.wrong("node 3\n\nnode\n", 3)

    def test_only_newlines_end_lines(self):
        self.wrong("node 1\rnode 2\n", 1)
        self.wrong("node 1\n\nnode 2\x0cnode 3\n", 3)

    def test_name_of_an_earlier_line(self):
        self.wrong("node 3\nnode 4\n# 3\nnode 3\nnode 4\n", 4)

    def test_names_itself(self):
        self.wrong("node 1 2\nnode 2 1 2\n", 2)
        self.wrong("node 1 1\n", 1)

    def test_neighbor_twice(self):
        self.wrong("node 1 2 2\nnode 2 1\n", 1)
        self.wrong("node 1 2\n\nnode 2 1 1\n", 3)

    def test_name_without_a_line(self):
        self.wrong("node 1 2\nnode 2 1 3\n", 2)
        self.wrong("node 8\n#\nnode 1 2\n", 3)

    def test_none_in_return(self):
        self.wrong("node 1\nnode 2 1\n", 2)
        self.wrong("node 1 2\nnode 2\n", 1)
        self.wrong("node 1 3\nnode 2 1\nnode 3 1\n", 2)

    def test_first_of_several_wrong_lines(self):
        self.wrong("node 1\nnode 2 4\nnode 3 1\n", 2)
        self.wrong("node 1\nnode 2 1\nnode 3 4\n", 2)
        self.wrong("node 1\nnode 1\nnode x\n", 2)
        self.wrong("node 1\nnode x\nnode 1\n", 2)

    def test_forms_come_before_names_without_a_line(self):
        for line in ["edge", "node 1", "node 4 4", "node 4 1 1", "node 4  1"]:
            self.wrong(f"node 1 9\n{line}\n", 2)
            self.wrong(f"node 1\n\nnode 2 1\n{line}\n", 4)

    def test_no_nodes(self):
        self.wrong("", 1)
        self.wrong("\n", 2)
        self.wrong("#", 2)
        self.wrong("# only\n", 2)
        self.wrong("\n# only\n\n", 4)
        self.wrong("\n\n#", 4)


if __name__ == "__main__":
    unittest.main()
