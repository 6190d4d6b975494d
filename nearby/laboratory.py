"""A laboratory, which holds a network and answers lines."""

from nearby.balls import ball_of
from nearby.coloring import Colors
from nearby.errors import InvalidText
from nearby.forests import Forests
from nearby.late import run_late
from nearby.matching import CoverByMatching, Matching, NamelessCover
from nearby.netreader import is_number, read_network
from nearby.network import bounds_of
from nearby.ruling import Clusters, Rulers
from nearby.running import run
from nearby.sets import Independent


def algorithm_named(word):
    """Return the algorithm of a word, or None for another word."""
    algorithms = {
        "colors": Colors(),
        "independent": Independent(),
        "matching": Matching(),
        "cover": CoverByMatching(),
        "namelesscover": NamelessCover(),
        "rulers": Rulers(),
        "clusters": Clusters(),
        "forests": Forests(),
    }
    return algorithms.get(word)


def output_text(output):
    """Return the text of an output that is an integer or a tuple of integers."""
    if not isinstance(output, tuple):
        return str(output)
    return ",".join([str(part) for part in output]) if output else "-"


class Laboratory:
    """A laboratory, at first without a network and noted lines."""

    def __init__(self):
        self._network = None
        self._noted = []

    def answer(self, line):
        """Return the list of the answer lines to a line."""
        words = line.split(" ")
        if not _has_form(words):
            return ["what"]
        if words[0] == "node":
            self._noted.append(line)
            return ["ok"]
        if words[0] == "net":
            return self._read()
        if self._network is None:
            return ["no net"]
        if words[0] == "run":
            return self._run(words[1])
        if words[0] == "late":
            return self._run_late(words[1], [int(word) for word in words[2:]])
        return self._ball(int(words[1]), int(words[2]))

    def answers(self, lines):
        """Return the list of the answer lines to all lines of a list, in order."""
        told = []
        for line in lines:
            told.extend(self.answer(line))
        return told

    def _read(self):
        text = "\n".join(self._noted)
        self._noted = []
        try:
            self._network = read_network(text)
        except InvalidText as wrong:
            return [f"bad {wrong.line}"]
        return [f"net {self._network.size()}"]

    def _run(self, word):
        algorithm = algorithm_named(word)
        bounds = bounds_of(self._network)
        outputs = run(self._network, bounds, algorithm)
        return self._output_lines(outputs) + [f"rounds {algorithm.rounds(bounds)}"]

    def _run_late(self, word, choices):
        outputs, moments, _ = run_late(self._network, bounds_of(self._network), algorithm_named(word), choices)
        return self._output_lines(outputs) + [f"moments {moments}"]

    def _output_lines(self, outputs):
        return [f"{name} {output_text(output)}" for name, output in zip(self._network.names(), outputs)]

    def _ball(self, name, radius):
        names = self._network.names()
        if name not in names:
            return ["no node"]
        _, _, entries = ball_of(self._network, names.index(name), radius)
        return [f"{entry[0]} {entry[1]} {entry[2]}" for entry in entries]


def _has_form(words):
    """Return True if the words of a line are those of a command, otherwise False."""
    told = words[1:]
    if words[0] == "node":
        return told != [] and _are_numbers(told)
    if words[0] == "net":
        return told == []
    if words[0] == "run":
        return len(told) == 1 and algorithm_named(told[0]) is not None
    if words[0] == "late":
        return told != [] and algorithm_named(told[0]) is not None and _are_numbers(told[1:])
    if words[0] == "ball":
        return len(told) == 2 and _are_numbers(told) and int(told[1]) <= 9
    return False


def _are_numbers(words):
    return all([is_number(word) for word in words])
