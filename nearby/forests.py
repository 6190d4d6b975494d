"""Links in forests, and the heights of nodes."""


class Forests:
    """The algorithm that numbers the upward links of each node.

    A state is a tuple (degree, name, out list); the out list is None at first.
    """

    def __init__(self):
        self.named = True

    def rounds(self, bounds):
        """Return the number of rounds."""
        return 1

    def begin(self, bounds, name, degree, given):
        """Return the state before the first round."""
        return degree, name, None

    def letters(self, bounds, state):
        """Return the letters of a round: the name."""
        return [state[1]] * state[0]

    def receive(self, bounds, state, received):
        """Return the state after a round."""
        degree, name, _ = state
        outs = []
        number = 0
        for other in received:
            if name < other:
                outs.append(number)
                number += 1
            else:
                outs.append(-1)
        return degree, name, tuple(outs)

    def output(self, bounds, state):
        """Return the out list."""
        return state[2]


class Heights:
    """The algorithm whose output is the height, or the number of rounds if it is less.

    A state is a tuple (degree, name, height as far as it is known).
    """

    def __init__(self, count):
        self.named = True
        self._count = count

    def rounds(self, bounds):
        """Return the number of rounds."""
        return self._count

    def begin(self, bounds, name, degree, given):
        """Return the state before the first round."""
        return degree, name, 0

    def letters(self, bounds, state):
        """Return the letters of a round: the name and the height."""
        degree, name, height = state
        return [(name, height)] * degree

    def receive(self, bounds, state, received):
        """Return the state after a round."""
        degree, name, _ = state
        return degree, name, max([height + 1 for other, height in received if other < name], default=0)

    def output(self, bounds, state):
        """Return the height."""
        return state[2]


def are_forests(network, outputs):
    """Return True if a list of tuples are out lists of forests, otherwise False."""
    nodes = range(network.size())
    if len(outputs) != len(nodes) or not all([len(outputs[node]) == network.degree(node) for node in nodes]):
        return False
    if not all([_numbers_differ(outs) for outs in outputs]) or not _ends_fit(network, outputs):
        return False
    for number in sorted(set([out for outs in outputs for out in outs if out >= 0])):
        if _has_ring(network, outputs, number):
            return False
    return True


def _numbers_differ(outs):
    numbers = [out for out in outs if out != -1]
    return len(set(numbers)) == len(numbers)


def _ends_fit(network, outputs):
    """Return True if every link has -1 at one end and a number of at least 0 at the other."""
    for node, other in network.links():
        port = network.neighbors(node).index(other)
        low, high = sorted([outputs[node][port], outputs[other][network.far_port(node, port)]])
        if low != -1 or high < 0:
            return False
    return True


def _has_ring(network, outputs, number):
    """Return True if the links with a number have a ring, otherwise False."""
    # No node has the number twice, so a ring leads from each node out to the next.
    return any([_goes_on(network, outputs, number, node) for node in range(network.size())])


def _goes_on(network, outputs, number, node):
    """Return True if as many links as there are nodes lead out, one after the other, from a node."""
    for _ in range(network.size()):
        if number not in outputs[node]:
            return False
        node = network.neighbors(node)[outputs[node].index(number)]
    return True
