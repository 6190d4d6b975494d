"""Matchings, and the covers that are made from them."""

from nearby.coloring import Colors
from nearby.joining import Then


class MatchingFromColors:
    """The nameless algorithm that makes a maximal matching from colors.

    A state is a tuple (degree, color, round, matched, taken) with the port to
    which the node is matched, and the port of the offer that it has taken and
    not answered yet; both are -1 if there is none.
    """

    def __init__(self):
        self.named = False

    def rounds(self, bounds):
        """Return the number of rounds."""
        return 2 * bounds[0] * (bounds[0] + 1)

    def begin(self, bounds, name, degree, given):
        """Return the state before the first round."""
        return degree, given, 0, -1, -1

    def letters(self, bounds, state):
        """Return the letters of a round: 1 for an offer or an answer, and 0 otherwise."""
        degree, _, now, _, taken = state
        return _letters_through(degree, _offer_port(bounds, state) if now % 2 == 0 else taken)

    def receive(self, bounds, state, received):
        """Return the state after a round."""
        degree, color, now, matched, taken = state
        if now % 2 == 0:
            return degree, color, now + 1, matched, _least_offer(received) if matched == -1 else -1
        offered = _offer_port(bounds, state)
        if taken != -1:
            matched = taken
        elif offered != -1 and received[offered] == 1:
            matched = offered
        return degree, color, now + 1, matched, -1

    def output(self, bounds, state):
        """Return the port to which the node is matched, or -1."""
        return state[3]


def _offer_port(bounds, state):
    """Return the port through which the node makes an offer in these two rounds, or -1."""
    degree, color, now, matched, _ = state
    port = now // 2 % bounds[0]
    makes_offer = color == now // 2 // bounds[0] and port < degree and matched == -1
    return port if makes_offer else -1


def _letters_through(degree, port):
    return [1 if other == port else 0 for other in range(degree)]


def _least_offer(received):
    return received.index(1) if 1 in received else -1


class Matching:
    """The algorithm that does Colors and then MatchingFromColors."""

    def __init__(self):
        self.named = True
        self._joined = Then(Colors(), MatchingFromColors())

    def rounds(self, bounds):
        """Return the number of rounds."""
        return self._joined.rounds(bounds)

    def begin(self, bounds, name, degree, given):
        """Return the state before the first round."""
        return self._joined.begin(bounds, name, degree, given)

    def letters(self, bounds, state):
        """Return the letters of a round, one for each port."""
        return self._joined.letters(bounds, state)

    def receive(self, bounds, state, received):
        """Return the state after a round."""
        return self._joined.receive(bounds, state, received)

    def output(self, bounds, state):
        """Return the port to which the node is matched, or -1."""
        return self._joined.output(bounds, state)


class CoverByMatching:
    """The algorithm that does Matching, and takes the matched nodes as a cover."""

    def __init__(self):
        self.named = True
        self._matching = Matching()

    def rounds(self, bounds):
        """Return the number of rounds."""
        return self._matching.rounds(bounds)

    def begin(self, bounds, name, degree, given):
        """Return the state before the first round."""
        return self._matching.begin(bounds, name, degree, given)

    def letters(self, bounds, state):
        """Return the letters of a round, one for each port."""
        return self._matching.letters(bounds, state)

    def receive(self, bounds, state, received):
        """Return the state after a round."""
        return self._matching.receive(bounds, state, received)

    def output(self, bounds, state):
        """Return 1 for a matched node, and 0 for another."""
        return 0 if self._matching.output(bounds, state) == -1 else 1


class NamelessCover:
    """The nameless algorithm that matches white sides to black ones, for a cover.

    A state is a tuple (degree, round, white, black, taken): white and black are
    1 if the side is matched, and taken is the port of the offer that the black
    side has taken and not answered yet, or -1.
    """

    def __init__(self):
        self.named = False

    def rounds(self, bounds):
        """Return the number of rounds."""
        return 2 * bounds[0]

    def begin(self, bounds, name, degree, given):
        """Return the state before the first round."""
        return degree, 0, 0, 0, -1

    def letters(self, bounds, state):
        """Return the letters of a round: 1 for an offer or an answer, and 0 otherwise."""
        degree, now, white, _, taken = state
        if now % 2 == 1:
            return _letters_through(degree, taken)
        return _letters_through(degree, now // 2 if white == 0 else -1)

    def receive(self, bounds, state, received):
        """Return the state after a round."""
        degree, now, white, black, taken = state
        if now % 2 == 0:
            return degree, now + 1, white, black, _least_offer(received) if black == 0 else -1
        port = now // 2
        if white == 0 and port < degree and received[port] == 1:
            white = 1
        if taken != -1:
            black = 1
        return degree, now + 1, white, black, -1

    def output(self, bounds, state):
        """Return 1 if a side is matched, and 0 otherwise."""
        return max(state[2], state[3])


def is_matching(network, outputs):
    """Return True if a list of ports and -1 is a matching, otherwise False."""
    if len(outputs) != network.size():
        return False
    return all([_is_answered(network, outputs, node) for node in range(network.size())])


def _is_answered(network, outputs, node):
    port = outputs[node]
    if port == -1:
        return True
    if not 0 <= port < network.degree(node):
        return False
    return outputs[network.neighbors(node)[port]] == network.far_port(node, port)


def is_maximal_matching(network, outputs):
    """Return True if a list of ports and -1 is a maximal matching, otherwise False."""
    if not is_matching(network, outputs):
        return False
    return all([outputs[node] != -1 or outputs[other] != -1 for node, other in network.links()])
