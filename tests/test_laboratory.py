import unittest

from nearby.balls import ball_of
from nearby.coloring import Colors
from nearby.forests import Forests
from nearby.laboratory import Laboratory, algorithm_named, output_text
from nearby.late import run_late
from nearby.matching import CoverByMatching, Matching, NamelessCover
from nearby.netreader import network_text, read_network
from nearby.network import bounds_of
from nearby.ruling import Clusters, Rulers
from nearby.running import run
from nearby.sets import Independent
from tests.helpers import samples

WORDS = {
    "colors": Colors, "independent": Independent, "matching": Matching, "cover": CoverByMatching,
    "namelesscover": NamelessCover, "rulers": Rulers, "clusters": Clusters, "forests": Forests,
}

TRIANGLE = ["node 7 3", "node 3 7 12", "node 12 3"]


def laboratory(lines=TRIANGLE):
    """A laboratory that holds a network."""
    made = Laboratory()
    made.answers(lines + ["net"])
    return made


def written(output):
    if isinstance(output, int):
        return str(output)
    return ",".join(map(str, output)) or "-"


class CommandsTest(unittest.TestCase):
    def test_node_and_net(self):
        made = Laboratory()
        for line in TRIANGLE:
            self.assertEqual(made.answer(line), ["ok"])
        self.assertEqual(made.answer("net"), ["net 3"])
        self.assertEqual(made.answer("ball 3 1"), ["3 0 2", "7 1 1", "12 1 1"])
        self.assertEqual(Laboratory().answers(["node 0", "net"]), ["ok", "net 1"])
        self.assertEqual(Laboratory().answers(["node 999999999", "net", "run rulers"])[2:], ["999999999 1", "rounds 30"])

    def test_noted_lines_are_forgotten(self):
        made = laboratory()
        self.assertEqual(made.answers(["node 5", "net", "ball 5 0", "ball 3 0"]), ["ok", "net 1", "5 0 0", "no node"])

    def test_all_algorithms(self):
        for network in samples():
            made = laboratory(network_text(network).splitlines())
            bounds = bounds_of(network)
            for word, algorithm in WORDS.items():
                outputs = run(network, bounds, algorithm())
                rows = [f"{name} {written(output)}" for name, output in zip(network.names(), outputs)]
                self.assertEqual(made.answer("run " + word), rows + [f"rounds {algorithm().rounds(bounds)}"])
                for choices in [[], [0], [5, 3, 1], [999999999, 7] * 3]:
                    line = " ".join(["late", word] + [str(choice) for choice in choices])
                    moments = run_late(network, bounds, algorithm(), choices)[1]
                    self.assertEqual(made.answer(line), rows + [f"moments {moments}"])

    def test_by_hand(self):
        made = laboratory(["node 0 1", "node 1 0 2", "node 2 1"])
        self.assertEqual(made.answer("run rulers"), ["0 1", "1 0", "2 1", "rounds 2"])
        self.assertEqual(made.answer("run clusters"), ["0 0,0,-1", "1 0,1,0", "2 2,0,-1", "rounds 4"])
        self.assertEqual(made.answer("run forests"), ["0 0", "1 -1,0", "2 -1", "rounds 1"])
        self.assertEqual(made.answer("late forests"), ["0 0", "1 -1,0", "2 -1", "moments 4"])
        # Twice the first letter comes again, so it takes two moments more.
        self.assertEqual(made.answer("late forests 1 1"), ["0 0", "1 -1,0", "2 -1", "moments 6"])
        self.assertEqual(laboratory(["node 4"]).answer("run forests"), ["4 -", "rounds 1"])
        self.assertEqual(laboratory(["node 4"]).answer("run matching"), ["4 -1", "rounds 7"])

    def test_balls(self):
        for network in samples():
            made = laboratory(network_text(network).splitlines())
            for node, name in enumerate(network.names()):
                for radius in [0, 1, 2, 9]:
                    entries = ball_of(network, node, radius)[2]
                    expected = [f"{entry[0]} {entry[1]} {entry[2]}" for entry in entries]
                    self.assertEqual(made.answer(f"ball {name} {radius}"), expected)

    def test_the_bounds_are_those_of_the_network(self):
        made = laboratory(["node 64 3", "node 3 64"])
        self.assertEqual(made.answer("run rulers")[-1], "rounds 7")
        self.assertEqual(made.answer("run namelesscover")[-1], "rounds 2")

    def test_answers_for_all_lines(self):
        self.assertEqual(Laboratory().answers([]), [])
        self.assertEqual(Laboratory().answers(["net", "", "node 4", "run colors", "net", "ball 4 3", "ball 5 3", "x"]), [
            "bad 1", "what", "ok", "no net", "net 1", "4 0 0", "no node", "what",
        ])
        lines = ["node 1", "net"]
        Laboratory().answers(lines)
        self.assertEqual(lines, ["node 1", "net"])


class WrongLinesTest(unittest.TestCase):
    LINES = [
        "", " ", "x", "Net", "NET", "nodes 1", "net ", " net", "net 1", "net  ", "net net", "#", "# node 1",
        "node", "node ", "node  1", "node 1 ", " node 1", "node 1  2", "node a", "node 1 b", "node 01", "node 1 02",
        "node 00", "node 1234567890", "node 1 1000000000", "node -1", "node +1", "node 1 -2", "node 1.0", "node 1,2",
        "node 1\n", "node 1\t2", "node\t1", "node 1\r", "node \u0663", "node \u00b2", "node 1_0", "NODE 1",
        "run", "run ", "run color", "run Colors", "run colors ", "run  colors", "run colors 1", "run colors independent",
        "run names", "run 1", "runs colors", " run colors", "run cover matching",
        "late", "late ", "late color", "late 1", "late 1 colors", "late colors ", "late  colors", "late colors  1",
        "late colors 1 ", "late colors 01", "late colors -1", "late colors +1", "late colors x", "late colors 1 2 y",
        "late colors 1234567890", "late colors 1 1234567890", "late colors 1,2", "late colors\n",
        "ball", "ball ", "ball 3", "ball 3 ", "ball 3 1 ", "ball 3  1", "ball  3 1", "ball 3 1 1", "ball 3 10",
        "ball 3 01", "ball 3 00", "ball 03 1", "ball 3 -1", "ball 3 +1", "ball -3 1", "ball x 1", "ball 3 x",
        "balls 3 1", "x 3 1", "7 3 1", " 3 1", "ball 1234567890 1", "ball 3 1234567890", "ball 3 999999999", "ball 3 1\n",
    ]

    def test_what(self):
        for line in self.LINES:
            self.assertEqual(Laboratory().answer(line), ["what"], line)
            self.assertEqual(laboratory().answer(line), ["what"], line)

    def test_wrong_lines_change_nothing(self):
        made = Laboratory()
        told = []
        for line in TRIANGLE:
            told.extend(made.answers(self.LINES + [line]))
        self.assertEqual(told, (["what"] * len(self.LINES) + ["ok"]) * 3)
        self.assertEqual(made.answers(["net"] + self.LINES), ["net 3"] + ["what"] * len(self.LINES))
        self.assertEqual(made.answer("ball 7 0"), ["7 0 1"])

    def test_no_net(self):
        for line in ["run colors", "run forests", "late cover", "late cover 1 2", "ball 3 1", "ball 0 9"]:
            self.assertEqual(Laboratory().answer(line), ["no net"])
            self.assertEqual(Laboratory().answers(TRIANGLE + [line]), ["ok"] * 3 + ["no net"])
            self.assertEqual(Laboratory().answers(["node 1 2", "net", line]), ["ok", "bad 1", "no net"])

    def test_bad(self):
        for lines, number in [
            ([], 1), (["node 5 5"], 1), (["node 5 6"], 1), (["node 5", "node 5"], 2), (["node 5", "node 6 7 7"], 2),
            (["node 5 6", "node 6"], 1), (["node 5", "node 6 5"], 2), (["node 1 2", "node 2 1", "node 3 1"], 3),
            (["node 1 9", "node 2 1", "node 3 3"], 3),
        ]:
            for made in [Laboratory(), laboratory()]:
                self.assertEqual(made.answers(lines + ["net"]), ["ok"] * len(lines) + [f"bad {number}"])
                # All noted lines are forgotten.
                self.assertEqual(made.answer("net"), ["bad 1"])
                self.assertEqual(made.answers(["node 5", "node 6", "net"]), ["ok", "ok", "net 2"])

    def test_lines_that_are_not_noted_do_not_count(self):
        lines = ["what now", "node 1", "", "run colors", "# a", "node 2 2", "net"]
        self.assertEqual(Laboratory().answers(lines), ["what", "ok", "what", "no net", "what", "ok", "bad 2"])

    def test_the_former_network_is_kept(self):
        made = laboratory()
        self.assertEqual(made.answers(["node 9 9", "ball 3 0", "net", "ball 3 0", "ball 9 0"]), [
            "ok", "3 0 2", "bad 1", "3 0 2", "no node",
        ])
        self.assertEqual(made.answers(["net", "ball 3 0"]), ["bad 1", "3 0 2"])

    def test_no_node(self):
        for line in ["ball 4 1", "ball 0 0", "ball 999999999 9"]:
            self.assertEqual(laboratory().answer(line), ["no node"])
        self.assertEqual(laboratory().answer("ball 4 10"), ["what"])
        self.assertEqual(Laboratory().answer("ball 4 1"), ["no net"])

    def test_laboratories_do_not_share_anything(self):
        first, second = Laboratory(), Laboratory()
        first.answer("node 1")
        self.assertEqual(second.answer("net"), ["bad 1"])
        self.assertEqual(first.answer("net"), ["net 1"])
        self.assertEqual(second.answer("run colors"), ["no net"])


class WordsTest(unittest.TestCase):
    def test_algorithm_named(self):
        for word, algorithm in WORDS.items():
            self.assertIs(type(algorithm_named(word)), algorithm)
        for word in ["", "color", "Colors", " colors", "colors ", "colors 1", "shrink", "heights", "None", "1"]:
            self.assertIsNone(algorithm_named(word))

    def test_output_text(self):
        for output, text in [
            (0, "0"), (7, "7"), (-1, "-1"), (10 ** 20, "1" + "0" * 20), ((), "-"), ((0,), "0"), ((-1,), "-1"),
            ((1, -1, 30), "1,-1,30"), ((3, 0, -1), "3,0,-1"),
        ]:
            self.assertEqual(output_text(output), text)

    def test_networks_are_read_as_texts_are(self):
        lines = ["node 4 2 0", "node 2 4", "node 0 4"]
        self.assertEqual(network_text(read_network("\n".join(lines))).splitlines(), lines)
        self.assertEqual(laboratory(lines).answer("run forests"), ["4 -1,-1", "2 0", "0 0", "rounds 1"])


if __name__ == "__main__":
    unittest.main()
