"""Link networks, and algorithms on the links."""

from nearby.coloring import Colors
from nearby.errors import InvalidBounds, InvalidNetwork
from nearby.network import Network, suits
from nearby.running import begun

NAMES = 0
NEIGHBORS = 1
FIRST = 2
SECOND = 3
TOLD = 4


def link_network(network, bounds):
    """Return the link network of a network with bounds."""
    if not suits(network, bounds):
        raise InvalidBounds("the bounds do not suit the network")
    links = network.links()
    if not links:
        raise InvalidNetwork("there is no link")
    names = network.names()
    link_names = [_link_name(bounds, names[node], names[other]) for node, other in links]
    rows = []
    for node, other in links:
        near = [at for at, ends in enumerate(links) if (node in ends) != (other in ends)]
        rows.append(sorted(near, key=lambda place: link_names[place]))
    return Network(link_names, rows)


def link_bounds(bounds):
    """Return the link bounds of bounds."""
    return max(1, 2 * bounds[0] - 2), bounds[1] * bounds[1]


def _link_name(bounds, name, other):
    return min(name, other) * bounds[1] + max(name, other)


class OnLinks:
    """The algorithm that runs another one on the link network.

    A state begins with what the node does next: it sends its name (NAMES), the
    names of its neighbors (NEIGHBORS), letters of links in the first and in the
    second of two rounds (FIRST, SECOND), or nothing more (TOLD). In FIRST there
    follow the number of rounds left on the links, and a tuple with one element
    for each port: None, or for a link in the node's care a tuple (seats, count,
    inner state). The seats say where the other links at both ends stand, in the
    order of their names, among all count ports of both ends, the own ones first.
    In SECOND there also follows, for each port, the tuple of the letters that
    its link sends to the links at the other ports.
    """

    def __init__(self, algorithm):
        self.named = True
        self._algorithm = algorithm

    def rounds(self, bounds):
        """Return the number of rounds."""
        return 3 + 2 * self._algorithm.rounds(link_bounds(bounds))

    def begin(self, bounds, name, degree, given):
        """Return the state before the first round."""
        return NAMES, name, degree

    def letters(self, bounds, state):
        """Return the letters of a round, one for each port."""
        if state[0] == NAMES:
            return [state[1]] * state[2]
        if state[0] == NEIGHBORS:
            return [state[2]] * len(state[2])
        if state[0] == SECOND:
            _, _, links, crossing = state
            return [_column(crossing, port) if link is None else None for port, link in enumerate(links)]
        _, left, links = state
        if left == 0:
            return self._outputs(bounds, links)
        degree = len(links)
        return [None if link is None else self._seated_letters(bounds, link)[degree:] for link in links]

    def receive(self, bounds, state, received):
        """Return the state after a round."""
        if state[0] == NAMES:
            return NEIGHBORS, state[1], tuple(received)
        if state[0] == NEIGHBORS:
            return self._begun_on_links(bounds, state[1], state[2], received)
        if state[0] == SECOND:
            _, left, links, crossing = state
            rows = [_column(crossing, port) + (far or ()) for port, far in enumerate(received)]
            return FIRST, left - 1, tuple([self._after(bounds, link, row) for link, row in zip(links, rows)])
        _, left, links = state
        if left == 0:
            told = self._outputs(bounds, links)
            return TOLD, tuple([far if link is None else own for link, own, far in zip(links, told, received)])
        return SECOND, left, links, self._crossing(bounds, links, received)

    def output(self, bounds, state):
        """Return the tuple of the outputs of the links at the ports."""
        return state[1]

    def _begun_on_links(self, bounds, name, names, received):
        inner_bounds = link_bounds(bounds)
        links = []
        for port, far_names in enumerate(received):
            if name > names[port]:
                links.append(None)
                continue
            seats = _seats(bounds, name, names, port, far_names)
            link_name = _link_name(bounds, name, names[port])
            inner = begun(self._algorithm, inner_bounds, link_name, len(seats), None)
            links.append((seats, len(names) + len(far_names), inner))
        return FIRST, self._algorithm.rounds(inner_bounds), tuple(links)

    def _outputs(self, bounds, links):
        """Return the outputs of the links in the node's care, with None for the others."""
        inner_bounds = link_bounds(bounds)
        return [None if link is None else self._algorithm.output(inner_bounds, link[2]) for link in links]

    def _seated_letters(self, bounds, link):
        """Return the tuple of the letters of a link, by the ports of both its ends."""
        seats, count, inner = link
        seated = [None] * count
        for seat, letter in zip(seats, self._algorithm.letters(link_bounds(bounds), inner)):
            seated[seat] = letter
        return tuple(seated)

    def _crossing(self, bounds, links, received):
        """Return the letters between the links at the node, from their carers."""
        degree = len(links)
        return tuple([
            far if link is None else self._seated_letters(bounds, link)[:degree] for link, far in zip(links, received)
        ])

    def _after(self, bounds, link, row):
        """Return a link after a round, from the letters by the ports of both its ends."""
        if link is None:
            return None
        seats, count, inner = link
        after = self._algorithm.receive(link_bounds(bounds), inner, [row[seat] for seat in seats])
        return seats, count, after


def _seats(bounds, name, names, port, far_names):
    """Return the tuple of the ports of the other links at both ends of a link, in the order of the links' names."""
    seated = [(_link_name(bounds, name, other), seat) for seat, other in enumerate(names) if seat != port]
    for seat, other in enumerate(far_names, start=len(names)):
        if other != name:
            seated.append((_link_name(bounds, names[port], other), seat))
    return tuple([seat for _, seat in sorted(seated)])


def _column(crossing, port):
    """Return the tuple of the letters to the link at a port."""
    return tuple([row[port] for row in crossing])


class LinkColors:
    """The algorithm that does Colors on the links."""

    def __init__(self):
        self.named = True
        self._on_links = OnLinks(Colors())

    def rounds(self, bounds):
        """Return the number of rounds."""
        return self._on_links.rounds(bounds)

    def begin(self, bounds, name, degree, given):
        """Return the state before the first round."""
        return self._on_links.begin(bounds, name, degree, given)

    def letters(self, bounds, state):
        """Return the letters of a round, one for each port."""
        return self._on_links.letters(bounds, state)

    def receive(self, bounds, state, received):
        """Return the state after a round."""
        return self._on_links.receive(bounds, state, received)

    def output(self, bounds, state):
        """Return the tuple of the colors of the links at the ports."""
        return self._on_links.output(bounds, state)


def are_link_colors(network, outputs, colors):
    """Return True if a list of tuples are colors of the links, different at each node, otherwise False."""
    nodes = range(network.size())
    if len(outputs) != len(nodes) or not all([len(outputs[node]) == network.degree(node) for node in nodes]):
        return False
    return all([_has_link_colors(network, outputs, node, colors) for node in nodes])


def _has_link_colors(network, outputs, node, colors):
    own = outputs[node]
    far = [outputs[other][network.far_port(node, port)] for port, other in enumerate(network.neighbors(node))]
    return list(own) == far and len(set(own)) == len(own) and all([0 <= color < colors for color in own])
