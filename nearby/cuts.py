"""Cuts."""

from nearby.coloring import Colors
from nearby.joining import Then


class CutFromColors:
    """The nameless algorithm that makes a cut from colors.

    A state is a tuple (degree, color, round, chosen); chosen is -1 at first.
    """

    def __init__(self):
        self.named = False

    def rounds(self, bounds):
        """Return the number of rounds."""
        return bounds[0] + 1

    def begin(self, bounds, name, degree, given):
        """Return the state before the first round."""
        return degree, given, 0, -1

    def letters(self, bounds, state):
        """Return the letters of a round: the number that is chosen."""
        return [state[3]] * state[0]

    def receive(self, bounds, state, received):
        """Return the state after a round."""
        degree, color, now, chosen = state
        if color == now:
            chosen = 0 if received.count(0) <= received.count(1) else 1
        return degree, color, now + 1, chosen

    def output(self, bounds, state):
        """Return the number that is chosen."""
        return state[3]


class Cut:
    """The algorithm that does Colors and then CutFromColors."""

    def __init__(self):
        self.named = True
        self._joined = Then(Colors(), CutFromColors())

    def rounds(self, bounds):
        """Return the number of rounds."""
        return self._joined.rounds(bounds)

    def begin(self, bounds, name, degree, given):
        """Return the state before the first round."""
        return self._joined.begin(bounds, name, degree, given)

    def letters(self, bounds, state):
        """Return the letters of a round, one for each port."""
        return self._joined.letters(bounds, state)

    def receive(self, bounds, state, received):
        """Return the state after a round."""
        return self._joined.receive(bounds, state, received)

    def output(self, bounds, state):
        """Return the number that is chosen."""
        return self._joined.output(bounds, state)


def cut_links(network, outputs):
    """Return the number of the links that are cut."""
    return len([1 for node, other in network.links() if outputs[node] != outputs[other]])
