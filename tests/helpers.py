"""Networks and algorithms that several tests use."""

import random

from nearby.building import grid, path, renamed, ring, star, turned
from nearby.late import run_late
from nearby.network import Network, bounds_of
from nearby.running import run


def complete(count):
    """A network in which every two nodes are neighbors."""
    rows = [[other for other in range(count) if other != node] for node in range(count)]
    return Network(list(range(count)), rows)


def scattered():
    """Two parts and a node alone, with names and ports in no order."""
    neighbors = [[3, 1], [0, 3, 5], [], [5, 1, 0], [6], [1, 3], [4]]
    return Network([12, 5, 30, 0, 7, 21, 9], neighbors)


def crooked_grid():
    """A grid of 3 rows and 3 columns with other names and turned ports."""
    network = renamed(grid(3, 3), [40, 11, 2, 35, 8, 19, 0, 27, 16])
    orders = [list(range(network.degree(node)))[::-1] for node in range(9)]
    orders[4] = [2, 0, 3, 1]
    return turned(network, orders)


def tangled(seed, count, most):
    """A network of a number of nodes with at most `most` neighbors each, with names and ports in no order."""
    choose = random.Random(seed)
    rows = [[] for _ in range(count)]
    for _ in range(3 * count):
        node, other = choose.randrange(count), choose.randrange(count)
        if node != other and other not in rows[node] and max(len(rows[node]), len(rows[other])) < most:
            rows[node].insert(choose.randrange(len(rows[node]) + 1), other)
            rows[other].insert(choose.randrange(len(rows[other]) + 1), node)
    return Network(choose.sample(range(5 * count), count), rows)


def many():
    """The samples, and more networks with scattered names."""
    return samples() + [
        tangled(1, 9, 2), tangled(2, 10, 3), tangled(3, 12, 4), tangled(4, 16, 6), tangled(5, 20, 3),
        renamed(path(9), [8, 3, 77, 5, 1, 60, 2, 9, 4]), renamed(ring(7), [64, 3, 31, 99, 2, 128, 16]),
        renamed(star(6), [9, 100, 3, 44, 5, 71]),
    ]


def bounds_for(network):
    """Bounds that fit exactly, and greater ones."""
    degree, names = bounds_of(network)
    return [(degree, names), (degree + 1, names), (degree, 3 * names + 7), (degree + 2, names + 1000)]


def outputs_of(network, bounds, algorithm, given=None):
    """The outputs of a run, which must be those of late runs."""
    outputs = run(network, bounds, algorithm, given=given)
    for choices in [[], [7, 2, 9, 0, 4, 31, 6, 5, 12, 8, 3, 1] * 4]:
        late = run_late(network, bounds, algorithm, choices, given=given)[0]
        if late != outputs:
            raise AssertionError("a late run has other outputs")
    return outputs


def ports_of(network, node):
    """The tuples (port, neighbor) of a node."""
    return list(enumerate(network.neighbors(node)))


def changed(row, at, value):
    """A copy of a list with another value at a place."""
    return row[:at] + [value] + row[at + 1:]


def is_data(value):
    return value is None or type(value) in (int, str) or type(value) is tuple and all(map(is_data, value))


def samples():
    """Networks of many kinds: connected and not, with one node and with more."""
    return [
        path(1), renamed(path(1), [6]), path(2), path(5), renamed(path(4), [3, 9, 1, 4]),
        ring(3), ring(6), star(5), grid(2, 3), complete(4), scattered(), crooked_grid(),
        Network([4, 2, 9], [[], [], []]),
    ]


def inputs_for(network):
    """An integer for each node, some of them negative, some the same."""
    return [(3 * node * node + 5) % 7 - 3 for node in range(network.size())]


class Diary:
    """An algorithm whose states hold everything that a node has been told.

    A state is (bounds, name, degree, given, received): `received` has a tuple
    for each round so far. A letter tells the name, the round and the port.
    """

    def __init__(self, named, count):
        self.named = named
        self.count = count

    def rounds(self, bounds):
        return self.count

    def begin(self, bounds, name, degree, given):
        return (bounds, name, degree, given, ())

    def letters(self, bounds, state):
        return [(state[1], state[3], len(state[4]), port) for port in range(state[2])]

    def receive(self, bounds, state, received):
        if not isinstance(received, list):
            raise AssertionError("letters are received as a list")
        return state[:4] + (state[4] + (tuple(received),),)

    def output(self, bounds, state):
        return ("output",) + state


class Mixed:
    """A nameless algorithm: every node mixes what it gets, with the ports, to one integer."""

    def __init__(self, count):
        self.named = False
        self.count = count

    def rounds(self, bounds):
        return self.count

    def begin(self, bounds, name, degree, given):
        if name is not None:
            raise AssertionError("a nameless algorithm got a name")
        return (degree, 7 * degree + (given or 0))

    def letters(self, bounds, state):
        return [(state[1] * 31 + port) % 10007 for port in range(state[0])]

    def receive(self, bounds, state, received):
        mixed = state[1]
        for letter in received:
            mixed = (mixed * 37 + letter + 1) % 10007
        return (state[0], mixed)

    def output(self, bounds, state):
        return state[1]


class NamedMixed(Mixed):
    """The same, but the name is mixed in at the beginning."""

    def __init__(self, count):
        Mixed.__init__(self, count)
        self.named = True

    def begin(self, bounds, name, degree, given):
        return (degree, 7 * degree + 101 * name + (given or 0))


class ByBounds(NamedMixed):
    """The same, with as many rounds as the bound of the degrees says."""

    def __init__(self):
        NamedMixed.__init__(self, 0)

    def rounds(self, bounds):
        return bounds[0]
