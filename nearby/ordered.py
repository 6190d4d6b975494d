"""The independent set that takes the nodes in the order of their names."""


def first_independent(network):
    """Return the list of 0 and 1 of the first independent set."""
    names = network.names()
    chosen = [0] * network.size()
    for node in sorted(range(network.size()), key=lambda at: names[at]):
        if 1 not in [chosen[other] for other in network.neighbors(node)]:
            chosen[node] = 1
    return chosen


class FirstIndependent:
    """The algorithm that finds the first independent set, as far as heights allow.

    A state is a tuple (degree, name, chosen); chosen is -1 if it is not known.
    """

    def __init__(self, count):
        self.named = True
        self._count = count

    def rounds(self, bounds):
        """Return the number of rounds."""
        return self._count

    def begin(self, bounds, name, degree, given):
        """Return the state before the first round."""
        return degree, name, -1

    def letters(self, bounds, state):
        """Return the letters of a round: the name, and whether the node is in the set."""
        degree, name, chosen = state
        return [(name, chosen)] * degree

    def receive(self, bounds, state, received):
        """Return the state after a round."""
        degree, name, _ = state
        lower = [chosen for other, chosen in received if other < name]
        # Not known as long as one of them is not: so the number of rounds tells the height.
        if -1 in lower:
            return degree, name, -1
        return degree, name, 0 if 1 in lower else 1

    def output(self, bounds, state):
        """Return 1 in the set, 0 outside of it, and -1 if it is not known."""
        return state[2]
