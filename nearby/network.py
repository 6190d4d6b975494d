"""Networks, distances in them, and the bounds that suit them."""

from nearby.errors import InvalidNetwork


class Network:
    """Nodes with names, and with ports that lead to their neighbors."""

    def __init__(self, names, neighbors):
        _check_names(names)
        if len(neighbors) != len(names):
            raise InvalidNetwork("there is not one list of neighbors for each name")
        for node, row in enumerate(neighbors):
            _check_row(node, row, len(names))
        self._names = list(names)
        self._neighbors = [list(row) for row in neighbors]
        self._ports = [_ports_by_neighbor(row) for row in neighbors]
        self._check_returns()

    def size(self):
        """Return the number of nodes."""
        return len(self._names)

    def names(self):
        """Return the list of the names."""
        return list(self._names)

    def neighbors(self, node):
        """Return the list of the neighbors of a node, by ports."""
        return list(self._neighbors[node])

    def degree(self, node):
        """Return the number of the ports of a node."""
        return len(self._neighbors[node])

    def far_port(self, node, port):
        """Return the port by which the neighbor at a port leads back."""
        neighbor = self._neighbors[node][port]
        return self._ports[neighbor][node]

    def links(self):
        """Return the ascending list of the tuples (u, v), u < v, of neighbors."""
        return [(node, other) for node, row in enumerate(self._neighbors) for other in sorted(row) if node < other]

    def _check_returns(self):
        for node, row in enumerate(self._neighbors):
            for other in row:
                if node not in self._ports[other]:
                    raise InvalidNetwork("a neighbor is no neighbor in return")


def _check_names(names):
    if not names:
        raise InvalidNetwork("there are no nodes")
    if min(names) < 0:
        raise InvalidNetwork("a name is negative")
    if len(set(names)) != len(names):
        raise InvalidNetwork("a name occurs twice")


def _check_row(node, row, size):
    for other in row:
        if not 0 <= other < size:
            raise InvalidNetwork("there is no such neighbor")
        if other == node:
            raise InvalidNetwork("a node is its own neighbor")
    if len(set(row)) != len(row):
        raise InvalidNetwork("a node has a neighbor twice")


def _ports_by_neighbor(row):
    return {other: port for port, other in enumerate(row)}


def distances(network, node):
    """Return the list of the distances of all nodes from a node."""
    found = [None] * network.size()
    found[node] = 0
    edge = [node]
    distance = 0
    while edge:
        distance += 1
        further = []
        for near in edge:
            for other in network.neighbors(near):
                if found[other] is None:
                    found[other] = distance
                    further.append(other)
        edge = further
    return found


def suits(network, bounds):
    """Return True if bounds suit a network, otherwise False."""
    degree, name = _greatest(network)
    return degree <= bounds[0] and name < bounds[1]


def bounds_of(network):
    """Return the least bounds that suit a network."""
    degree, name = _greatest(network)
    return max(1, degree), name + 1


def _greatest(network):
    degree = max([network.degree(node) for node in range(network.size())])
    return degree, max(network.names())
