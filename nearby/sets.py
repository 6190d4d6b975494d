"""Independent sets, dominating sets and covers."""

from nearby.coloring import Colors
from nearby.joining import Then


class IndependentFromColors:
    """The nameless algorithm that makes a maximal independent set from colors.

    A state is a tuple (degree, color, round, chosen); chosen is 1 in the set.
    """

    def __init__(self):
        self.named = False

    def rounds(self, bounds):
        """Return the number of rounds."""
        return bounds[0] + 1

    def begin(self, bounds, name, degree, given):
        """Return the state before the first round."""
        return degree, given, 0, 0

    def letters(self, bounds, state):
        """Return the letters of a round: whether the node is in the set."""
        return [state[3]] * state[0]

    def receive(self, bounds, state, received):
        """Return the state after a round."""
        degree, color, now, chosen = state
        if color == now and 1 not in received:
            chosen = 1
        return degree, color, now + 1, chosen

    def output(self, bounds, state):
        """Return 1 in the set, and 0 otherwise."""
        return state[3]


class Independent:
    """The algorithm that does Colors and then IndependentFromColors."""

    def __init__(self):
        self.named = True
        self._joined = Then(Colors(), IndependentFromColors())

    def rounds(self, bounds):
        """Return the number of rounds."""
        return self._joined.rounds(bounds)

    def begin(self, bounds, name, degree, given):
        """Return the state before the first round."""
        return self._joined.begin(bounds, name, degree, given)

    def letters(self, bounds, state):
        """Return the letters of a round, one for each port."""
        return self._joined.letters(bounds, state)

    def receive(self, bounds, state, received):
        """Return the state after a round."""
        return self._joined.receive(bounds, state, received)

    def output(self, bounds, state):
        """Return 1 in the set, and 0 otherwise."""
        return self._joined.output(bounds, state)


def is_independent(network, outputs):
    """Return True if a list of 0 and 1 is an independent set, otherwise False."""
    if not _is_set(network, outputs):
        return False
    return all([outputs[node] + outputs[other] < 2 for node, other in network.links()])


def is_maximal_independent(network, outputs):
    """Return True if a list of 0 and 1 is a maximal independent set, otherwise False."""
    # A node with 0 that has no neighbor with 1 could come into the set.
    return is_independent(network, outputs) and is_dominating(network, outputs)


def is_dominating(network, outputs):
    """Return True if a list of 0 and 1 is a dominating set, otherwise False."""
    if not _is_set(network, outputs):
        return False
    return all([_has_one_near(network, outputs, node) for node in range(network.size())])


def is_cover(network, outputs):
    """Return True if a list of 0 and 1 is a cover, otherwise False."""
    if not _is_set(network, outputs):
        return False
    return all([outputs[node] + outputs[other] > 0 for node, other in network.links()])


def _is_set(network, outputs):
    return len(outputs) == network.size() and all([output in (0, 1) for output in outputs])


def _has_one_near(network, outputs, node):
    return outputs[node] == 1 or 1 in [outputs[other] for other in network.neighbors(node)]
