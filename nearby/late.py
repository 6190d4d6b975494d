"""Runs without common rounds, in which letters are late."""

from nearby.running import first_states


def run_late(network, bounds, algorithm, choices, *, given=None):
    """Return a tuple (outputs, moments, skew) of a late run."""
    states = first_states(network, bounds, algorithm, given)
    nodes = LateNodes(network, bounds, algorithm, states)
    nodes.start()
    moments = 0
    skew = 0
    while nodes.way:
        choice = choices[moments] if moments < len(choices) else 0
        skew = max(skew, nodes.deliver(choice))
        moments += 1
    return nodes.outputs(), moments, skew


class LateNodes:
    """The nodes of a late run, and the list `way` of the letters on the way.

    A letter on the way is a tuple (receiver, port of the receiver, mark, letter).
    """

    def __init__(self, network, bounds, algorithm, states):
        self.way = []
        self._network = network
        self._bounds = bounds
        self._algorithm = algorithm
        self._last = algorithm.rounds(bounds)
        self._states = list(states)
        self._done = [0] * len(states)
        self._kept = [{} for _ in states]

    def start(self):
        """Let all nodes send for the first time."""
        for node in range(len(self._states)):
            self._send(node)
            self._go_on(node)

    def deliver(self, choice):
        """Deliver a letter, and return by how many rounds its receiver then differs from a neighbor at most."""
        at = choice // 2 % len(self.way)
        node, port, mark, letter = self.way[at]
        if choice % 2 == 0:
            del self.way[at]
        self.take(node, port, mark, letter)
        return max([abs(self._done[node] - self._done[other]) for other in self._network.neighbors(node)])

    def take(self, node, port, mark, letter):
        """Let a node get a letter through a port, and do all that it then can do."""
        if mark > self._done[node]:
            self._kept[node].setdefault((mark, port), letter)
        self._go_on(node)

    def send_letter(self, node, port, mark, letter):
        """Let a node send a letter through a port."""
        self.post(node, port, mark, letter)

    def post(self, node, port, mark, content):
        """Put on the way what a node sends through a port."""
        other = self._network.neighbors(node)[port]
        self.way.append((other, self._network.far_port(node, port), mark, content))

    def outputs(self):
        """Return the outputs of all nodes."""
        return [self._algorithm.output(self._bounds, state) for state in self._states]

    def _send(self, node):
        if self._done[node] == self._last:
            return
        letters = self._algorithm.letters(self._bounds, self._states[node])
        mark = self._done[node] + 1
        for port in range(self._network.degree(node)):
            self.send_letter(node, port, mark, letters[port])

    def _go_on(self, node):
        while self._done[node] < self._last and self._is_ready(node):
            self._receive(node)
            self._send(node)

    def _is_ready(self, node):
        mark = self._done[node] + 1
        return all([(mark, port) in self._kept[node] for port in range(self._network.degree(node))])

    def _receive(self, node):
        mark = self._done[node] + 1
        received = [self._kept[node].pop((mark, port)) for port in range(self._network.degree(node))]
        self._states[node] = self._algorithm.receive(self._bounds, self._states[node], received)
        self._done[node] = mark
