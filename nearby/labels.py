"""Labels that neighbors can check."""

from nearby.network import distances

LENGTHS = {"forest": 2, "root": 2, "size": 5}


def says_yes(sort, name, label, neighbors):
    """Return True if a node says yes, otherwise False."""
    labels = [other for _, other in neighbors]
    if not all([_has_form(sort, other) for other in [label] + labels]):
        return False
    if sort == "sides":
        return label not in labels
    if not _has_place(name, label, labels):
        return False
    lower = [other for other in labels if other[1] == label[1] - 1]
    if sort == "forest":
        higher = [other for other in labels if other[1] == label[1] + 1]
        return len(lower) == (0 if label[1] == 0 else 1) and len(lower) + len(higher) == len(labels)
    if sort == "root":
        return label[1] == 0 or lower != []
    return _has_size(name, label, neighbors)


def _has_form(sort, label):
    if sort == "sides":
        return label in (0, 1)
    if not isinstance(label, tuple) or len(label) != LENGTHS[sort]:
        return False
    return all([isinstance(part, int) for part in label])


def _has_place(name, label, labels):
    """Return True if the root and the depth are right, as far as all sorts ask for it."""
    root, depth = label[:2]
    if depth < 0 or (depth == 0) != (name == root):
        return False
    return all([other[0] == root for other in labels])


def _has_size(name, label, neighbors):
    _, depth, parent, below, total = label
    if not all([other[4] == total for _, other in neighbors]):
        return False
    if below != 1 + sum([other[3] for _, other in neighbors if other[1] == depth + 1 and other[2] == name]):
        return False
    if depth == 0:
        return parent == name and total == below
    return parent in [other_name for other_name, other in neighbors if other[1] == depth - 1]


def all_say_yes(sort, network, labels):
    """Return True if all nodes of a network say yes to a list of labels, otherwise False."""
    if len(labels) != network.size():
        return False
    names = network.names()
    for node, name in enumerate(names):
        if not says_yes(sort, name, labels[node], [(names[other], labels[other]) for other in network.neighbors(node)]):
            return False
    return True


def labels_for(sort, network):
    """Return a list of labels to which all nodes say yes, or None if there is none."""
    roots, depths = _nearest_roots(network)
    names = network.names()
    if sort == "sides":
        labels = [depth % 2 for depth in depths]
    elif sort == "size":
        labels = _sizes(network, roots, depths)
    else:
        labels = [(names[root], depth) for root, depth in zip(roots, depths)]
    # If there are right labels at all, these are right, wherever the roots are.
    return labels if all_say_yes(sort, network, labels) else None


def _nearest_roots(network):
    """Return the lists of the first node of each node's part, and of the distances from it."""
    roots = [None] * network.size()
    depths = [None] * network.size()
    for node in range(network.size()):
        if roots[node] is None:
            for other, distance in enumerate(distances(network, node)):
                if distance is not None:
                    roots[other] = node
                    depths[other] = distance
    return roots, depths


def _sizes(network, roots, depths):
    names = network.names()
    parents = [_parent(network, depths, node) for node in range(network.size())]
    below = [1] * network.size()
    for depth, node in sorted(zip(depths, range(network.size())), reverse=True):
        if depth > 0:
            below[parents[node]] += below[node]
    return [
        (names[root], depths[node], names[parents[node]], below[node], below[root]) for node, root in enumerate(roots)
    ]


def _parent(network, depths, node):
    for other in network.neighbors(node):
        if depths[other] < depths[node]:
            return other
    return node
