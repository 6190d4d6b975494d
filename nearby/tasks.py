"""Tasks, their answers, and the lists that solve them."""

from nearby.coloring import is_coloring
from nearby.errors import TooLarge
from nearby.matching import is_maximal_matching
from nearby.sets import is_cover, is_dominating, is_maximal_independent

MOST_NODES = 16


def answers(task, degree):
    """Return the ascending list of the answers of a node with a degree."""
    if task[0] == "colors":
        return list(range(task[1]))
    if task[0] == "matching":
        return list(range(-1, degree))
    return [0, 1]


def solves(task, network, outputs):
    """Return True if a list of answers solves a task on a network, otherwise False."""
    if task[0] == "colors":
        return is_coloring(network, outputs, task[1])
    if task[0] == "independent":
        return is_maximal_independent(network, outputs)
    if task[0] == "matching":
        return is_maximal_matching(network, outputs)
    most = most_ones(task, network)
    if task[0] == "cover":
        return is_cover(network, outputs) and sum(outputs) <= most
    return is_dominating(network, outputs) and sum(outputs) <= most


def most_ones(task, network):
    """Return the greatest number of nodes with 1 in a list that solves a task of covers or dominating sets."""
    least = least_cover(network) if task[0] == "cover" else least_dominating(network)
    return task[1] * least


def least_cover(network):
    """Return the least number of nodes of a cover."""
    near = _checked_neighbors(network)
    return _least_cover_of(near, list(range(len(near))))


def least_dominating(network):
    """Return the least number of nodes of a dominating set."""
    near = _checked_neighbors(network)
    count = 0
    while not _can_dominate(near, list(range(len(near))), count):
        count += 1
    return count


def _checked_neighbors(network):
    if network.size() > MOST_NODES:
        raise TooLarge("covers and dominating sets are asked for on small networks only")
    return [network.neighbors(node) for node in range(network.size())]


def _least_cover_of(near, nodes):
    """Return the least number of nodes of a cover of the links between some nodes."""
    busiest = None
    crowd = []
    for node in nodes:
        row = [other for other in near[node] if other in nodes]
        if len(row) > len(crowd):
            busiest = node
            crowd = row
    if busiest is None:
        return 0
    without = [node for node in nodes if node != busiest]
    beyond = [node for node in without if node not in crowd]
    # If the busiest node is not in the cover, all its neighbors are.
    return min(1 + _least_cover_of(near, without), len(crowd) + _least_cover_of(near, beyond))


def _can_dominate(near, waiting, count):
    """Return True if a number of nodes is enough to be at or beside all waiting nodes, otherwise False."""
    if not waiting:
        return True
    if count == 0:
        return False
    for chosen in [waiting[0]] + near[waiting[0]]:
        left = [node for node in waiting if node != chosen and node not in near[chosen]]
        if _can_dominate(near, left, count - 1):
            return True
    return False
