"""Sums of the inputs in clusters, and the network of the clusters."""

from nearby.network import Network
from nearby.ruling import Clusters, digits_of_names

# In a steady run a node may know no ruler for some rounds.
NO_PLACE = (-1, -1, -1)


class ClusterSums:
    """The algorithm that adds up the inputs in each cluster.

    A state is a tuple (rounds done, degree, worth, place, told): worth is the sum
    of the inputs that have come so far, place the state of Clusters and then its
    output, and told the output, or None as long as it is not known.
    """

    def __init__(self):
        self.named = True
        self._clusters = Clusters()

    def rounds(self, bounds):
        """Return the number of rounds."""
        return 4 * digits_of_names(bounds)

    def begin(self, bounds, name, degree, given):
        """Return the state before the first round."""
        return 0, degree, given, self._clusters.begin(bounds, name, degree, None), None

    def letters(self, bounds, state):
        """Return the letters of a round: those of Clusters, the sum so far, or the output."""
        done, degree, worth, place, told = state
        digits = digits_of_names(bounds)
        if done < 2 * digits:
            return self._clusters.letters(bounds, place)
        if done < 3 * digits:
            _, distance, port = place
            sends = distance == 3 * digits - done
            return [worth if sends and at == port else None for at in range(degree)]
        return [told] * degree

    def receive(self, bounds, state, received):
        """Return the state after a round."""
        done, degree, worth, place, told = state
        digits = digits_of_names(bounds)
        if done < 2 * digits:
            place = self._clusters.receive(bounds, place, received)
            if done + 1 == 2 * digits:
                place = self._clusters.output(bounds, place) or NO_PLACE
        elif done < 3 * digits:
            worth = worth + sum([other for other in received if other is not None])
            if done + 1 == 3 * digits and place[1] == 0:
                told = (place[0], worth)
        elif told is None:
            told = _told_of(place[0], received)
        return done + 1, degree, worth, place, told

    def output(self, bounds, state):
        """Return the tuple of the name of the ruler and the sum."""
        return state[4]


def _told_of(ruler, received):
    """Return what neighbors tell of the cluster of a ruler, or None."""
    for told in received:
        if told is not None and told[0] == ruler:
            return told
    return None


def cluster_network(network, outputs):
    """Return the cluster network for outputs of Clusters."""
    rulers = [place[0] for place in outputs]
    names = [name for name, ruler in zip(network.names(), rulers) if name == ruler]
    near = {name: {} for name in names}
    for node, other in network.links():
        if rulers[node] != rulers[other]:
            near[rulers[node]][rulers[other]] = True
            near[rulers[other]][rulers[node]] = True
    return Network(names, [[names.index(ruler) for ruler in sorted(near[name])] for name in names])
