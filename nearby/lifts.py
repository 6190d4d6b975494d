"""Lifts of networks, and the classes of nodes with equal views."""

from nearby.balls import views_by_kind
from nearby.errors import InvalidLift
from nearby.network import Network


def lift(network, sheets, shifts, names):
    """Return a lift of a network."""
    if sheets < 1:
        raise InvalidLift("there are no sheets")
    if len(shifts) != len(network.links()):
        raise InvalidLift("there is not one shift for each link")
    if len(names) != sheets * network.size():
        raise InvalidLift("there is not one name for each node of the lift")
    steps = {}
    for (node, other), shift in zip(network.links(), shifts):
        steps[(node, other)] = shift
        steps[(other, node)] = -shift
    rows = []
    for node in range(network.size()):
        for sheet in range(sheets):
            near = network.neighbors(node)
            rows.append([other * sheets + (sheet + steps[(node, other)]) % sheets for other in near])
    return Network(names, rows)


def is_lift(lifted, network, copied):
    """Return True if a network is a lift of another one, for the node that each node copies, otherwise False."""
    if len(copied) != lifted.size() or not all([0 <= node < network.size() for node in copied]):
        return False
    return all([_is_copy(lifted, network, copied, node) for node in range(lifted.size())])


def _is_copy(lifted, network, copied, node):
    first = copied[node]
    if lifted.degree(node) != network.degree(first):
        return False
    if [copied[other] for other in lifted.neighbors(node)] != network.neighbors(first):
        return False
    ports = range(network.degree(first))
    return all([lifted.far_port(node, port) == network.far_port(first, port) for port in ports])


def view_classes(network, depth):
    """Return the list of the numbers of the nodes' classes: equal views with a depth have equal numbers."""
    kinds, _ = views_by_kind([network], [[None] * network.size()], depth)
    return kinds[0]


def stable_depth(network):
    """Return the least depth from which on the classes do not change any more."""
    depth = 0
    # Deeper views only ever divide classes, so equal numbers are equal classes.
    while view_classes(network, depth) != view_classes(network, depth + 1):
        depth += 1
    return depth
