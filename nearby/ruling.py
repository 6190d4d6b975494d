"""Rulers, and the clusters around them."""

from nearby.joining import Then
from nearby.network import distances
from nearby.sets import is_independent


def digits_of_names(bounds):
    """Return the number B of the binary digits that the names may have."""
    return max(1, (bounds[1] - 1).bit_length())


class Rulers:
    """The algorithm that finds rulers.

    A state is a tuple (degree, name, round, chosen); chosen is 1 in the set.
    """

    def __init__(self):
        self.named = True

    def rounds(self, bounds):
        """Return the number of rounds."""
        return digits_of_names(bounds)

    def begin(self, bounds, name, degree, given):
        """Return the state before the first round."""
        return degree, name, 0, 1

    def letters(self, bounds, state):
        """Return the letters of a round: the name, and whether the node is in the set."""
        degree, name, _, chosen = state
        return [(name, chosen)] * degree

    def receive(self, bounds, state, received):
        """Return the state after a round."""
        degree, name, now, chosen = state
        if any([_gives_way(name, other, now) for other, kept in received if kept == 1]):
            chosen = 0
        return degree, name, now + 1, chosen

    def output(self, bounds, state):
        """Return 1 in the set, and 0 otherwise."""
        return state[3]


def _gives_way(name, other, bit):
    """Return True if two names are the same above a bit that is 1 in the first and 0 in the other."""
    return (name >> bit) & 1 == 1 and other >> bit == (name >> bit) - 1


class ClustersFromRulers:
    """The algorithm that finds clusters from rulers.

    A state is a tuple (degree, name, place); the place is the output, or None
    as long as no ruler is known.
    """

    def __init__(self):
        self.named = True

    def rounds(self, bounds):
        """Return the number of rounds."""
        return digits_of_names(bounds)

    def begin(self, bounds, name, degree, given):
        """Return the state before the first round."""
        return degree, name, (name, 0, -1) if given == 1 else None

    def letters(self, bounds, state):
        """Return the letters of a round: the place."""
        return [state[2]] * state[0]

    def receive(self, bounds, state, received):
        """Return the state after a round."""
        degree, name, place = state
        if place is None:
            # The nearest rulers are heard of first, so the first place is the right one.
            place = _place_beside(received)
        return degree, name, place

    def output(self, bounds, state):
        """Return the tuple (ruler, distance, port)."""
        return state[2]


def _place_beside(received):
    """Return the place that follows from those of the neighbors, or None."""
    places = [(place[1], place[0], port) for port, place in enumerate(received) if place is not None]
    if not places:
        return None
    distance, ruler, port = min(places)
    return ruler, distance + 1, port


class Clusters:
    """The algorithm that does Rulers and then ClustersFromRulers."""

    def __init__(self):
        self.named = True
        self._joined = Then(Rulers(), ClustersFromRulers())

    def rounds(self, bounds):
        """Return the number of rounds."""
        return self._joined.rounds(bounds)

    def begin(self, bounds, name, degree, given):
        """Return the state before the first round."""
        return self._joined.begin(bounds, name, degree, given)

    def letters(self, bounds, state):
        """Return the letters of a round, one for each port."""
        return self._joined.letters(bounds, state)

    def receive(self, bounds, state, received):
        """Return the state after a round."""
        return self._joined.receive(bounds, state, received)

    def output(self, bounds, state):
        """Return the tuple (ruler, distance, port)."""
        return self._joined.output(bounds, state)


def are_rulers(network, outputs, reach):
    """Return True if a list of 0 and 1 are rulers within a reach of all nodes, otherwise False."""
    if not is_independent(network, outputs):
        return False
    return all([_has_ruler_near(network, outputs, node, reach) for node in range(network.size())])


def _has_ruler_near(network, outputs, node, reach):
    away = distances(network, node)
    return any([output == 1 and far is not None and far <= reach for output, far in zip(outputs, away)])


def are_clusters(network, outputs, reach):
    """Return True if a list of tuples are clusters with distances within a reach, otherwise False."""
    if len(outputs) != network.size() or not all([len(place) == 3 and place[1] <= reach for place in outputs]):
        return False
    return all([_is_place(network, outputs, node) for node in range(network.size())])


def _is_place(network, outputs, node):
    ruler, distance, port = outputs[node]
    if port == -1:
        return distance == 0 and ruler == network.names()[node]
    if not 0 <= port < network.degree(node):
        return False
    # So distances become less from node to node, and a way ends at a ruler only.
    return outputs[network.neighbors(node)[port]][:2] == (ruler, distance - 1)
