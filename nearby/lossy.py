"""Runs without common rounds, in which letters are lost, doubled and late."""

from nearby.late import LateNodes
from nearby.running import first_states

STAYS = 2
LOST = 3


def run_lossy(network, bounds, algorithm, choices, *, given=None):
    """Return a tuple (outputs, moments, repetitions) of a lossy run."""
    states = first_states(network, bounds, algorithm, given)
    nodes = LossyNodes(network, bounds, algorithm, states)
    nodes.start()
    moments = 0
    repetitions = 0
    # A node that is not in the last round lacks a letter, which is not confirmed then.
    while nodes.way or nodes.has_unconfirmed():
        if not nodes.way:
            nodes.repeat()
            repetitions += 1
        nodes.move(choices[moments] if moments < len(choices) else 0)
        moments += 1
    return nodes.outputs(), moments, repetitions


class LossyNodes(LateNodes):
    """The nodes of a lossy run, and the list `way` of the letters and receipts on the way.

    On the way is a tuple (receiver, port of the receiver, mark, content): the
    content is a tuple of the letter alone, and empty for a receipt.
    """

    def __init__(self, network, bounds, algorithm, states):
        LateNodes.__init__(self, network, bounds, algorithm, states)
        self._unconfirmed = [{} for _ in states]

    def send_letter(self, node, port, mark, letter):
        """Let a node send a letter through a port, and keep it until it is confirmed."""
        self._unconfirmed[node][(port, mark)] = letter
        self.post(node, port, mark, (letter,))

    def has_unconfirmed(self):
        """Return True if some letter is not confirmed, otherwise False."""
        return any([len(kept) > 0 for kept in self._unconfirmed])

    def repeat(self):
        """Let all nodes send their unconfirmed letters again."""
        for node, kept in enumerate(self._unconfirmed):
            for port, mark in sorted(kept):
                self.post(node, port, mark, (kept[(port, mark)],))

    def move(self, choice):
        """Deliver or lose a letter or a receipt."""
        at = choice // 4 % len(self.way)
        fate = choice % 4
        node, port, mark, content = self.way[at]
        if fate != STAYS:
            del self.way[at]
        if fate == LOST:
            return
        if content:
            # The receipt is put on the way before what the node sends next.
            self.post(node, port, mark, ())
            self.take(node, port, mark, content[0])
        else:
            self._unconfirmed[node].pop((port, mark), None)
