"""Powers of networks, and algorithms on them."""

from nearby.balls import Gather
from nearby.coloring import Colors
from nearby.errors import InvalidInput
from nearby.network import Network, distances
from nearby.running import begun
from nearby.sets import Independent


def power(network, exponent):
    """Return the power of a network with an exponent."""
    _check_exponent(exponent)
    names = network.names()
    rows = []
    for node in range(network.size()):
        away = distances(network, node)
        near = [other for other, far in enumerate(away) if far is not None and 1 <= far <= exponent]
        rows.append(sorted(near, key=lambda at: names[at]))
    return Network(names, rows)


def power_bounds(bounds, exponent):
    """Return the power bounds of bounds with an exponent."""
    _check_exponent(exponent)
    degree, names = bounds
    total = 0
    ways = degree
    for _ in range(exponent):
        total += ways
        ways = ways * (degree - 1)
    return total, names


def _check_exponent(exponent):
    if exponent < 1:
        raise InvalidInput("the exponent is less than 1")


class OnPower:
    """The algorithm that runs another one on the power of the network.

    While the ball is gathered, a state is a tuple (rounds left for it, ball).
    Then it is a tuple (0, place, inner, done, arrived, moving): the place is a
    tuple (degree, name, ways) with a tuple (name, ports) for the way to each
    neighbor in the power; inner is the state on the power, and done the number
    of the rounds done for its next round. In these arrived are the tuples
    (sender, letter) of letters for the node, and moving the tuples (ports left,
    sender, letter) of letters for others.
    """

    def __init__(self, algorithm, exponent):
        self.named = True
        self._algorithm = algorithm
        self._exponent = exponent
        self._gather = Gather(exponent)

    def rounds(self, bounds):
        """Return the number of rounds."""
        return self._exponent * (1 + self._algorithm.rounds(power_bounds(bounds, self._exponent)))

    def begin(self, bounds, name, degree, given):
        """Return the state before the first round."""
        return self._exponent, self._gather.begin(bounds, name, degree, given)

    def letters(self, bounds, state):
        """Return the letters of a round: the ball, or what is carried on through each port."""
        if state[0] > 0:
            return self._gather.letters(bounds, state[1])
        _, place, inner, done, _, moving = state
        if done == 0:
            moving = self._first_moving(bounds, place, inner)
        carried = [[] for _ in range(place[0])]
        for ports, sender, letter in moving:
            carried[ports[0]].append((ports[1:], sender, letter))
        return [tuple(row) for row in carried]

    def receive(self, bounds, state, received):
        """Return the state after a round."""
        if state[0] > 0:
            ball = self._gather.receive(bounds, state[1], received)
            return (state[0] - 1, ball) if state[0] > 1 else self._begun_on_power(bounds, ball)
        _, place, inner, done, arrived, _ = state
        carried = [parcel for row in received for parcel in row]
        arrived = arrived + tuple([(sender, letter) for ports, sender, letter in carried if not ports])
        if done + 1 < self._exponent:
            return 0, place, inner, done + 1, arrived, tuple([parcel for parcel in carried if parcel[0]])
        by_sender = dict(arrived)
        letters = [by_sender[sender] for sender, _ in place[2]]
        after = self._algorithm.receive(power_bounds(bounds, self._exponent), inner, letters)
        return 0, place, after, 0, (), ()

    def output(self, bounds, state):
        """Return the output of the algorithm on the power."""
        return self._algorithm.output(power_bounds(bounds, self._exponent), state[2])

    def _begun_on_power(self, bounds, ball):
        name, _, entries = ball
        ways = _ways_in(ball)
        inner = begun(self._algorithm, power_bounds(bounds, self._exponent), name, len(ways), entries[0][3])
        return 0, (entries[0][2], name, ways), inner, 0, (), ()

    def _first_moving(self, bounds, place, inner):
        """Return the tuples (ports, sender, letter) of the letters of a round on the power."""
        _, name, ways = place
        letters = self._algorithm.letters(power_bounds(bounds, self._exponent), inner)
        return [(ports, name, letter) for (_, ports), letter in zip(ways, letters)]


def _ways_in(ball):
    """Return the ascending tuple of the tuples (name, ports of a shortest way) for the other nodes of a ball."""
    name, _, entries = ball
    ways = {name: ()}
    # Entries are ordered by distances, so the first way to a node is a shortest one.
    for entry in entries:
        for port, end in enumerate(entry[4]):
            if end is not None and end[0] not in ways:
                ways[end[0]] = ways[entry[0]] + (port,)
    del ways[name]
    return tuple(sorted(ways.items()))


class FarColors:
    """The algorithm that does Colors on the power of the network."""

    def __init__(self, exponent):
        self.named = True
        self._on_power = OnPower(Colors(), exponent)

    def rounds(self, bounds):
        """Return the number of rounds."""
        return self._on_power.rounds(bounds)

    def begin(self, bounds, name, degree, given):
        """Return the state before the first round."""
        return self._on_power.begin(bounds, name, degree, given)

    def letters(self, bounds, state):
        """Return the letters of a round, one for each port."""
        return self._on_power.letters(bounds, state)

    def receive(self, bounds, state, received):
        """Return the state after a round."""
        return self._on_power.receive(bounds, state, received)

    def output(self, bounds, state):
        """Return the color."""
        return self._on_power.output(bounds, state)


class FarIndependent:
    """The algorithm that does Independent on the power of the network."""

    def __init__(self, exponent):
        self.named = True
        self._on_power = OnPower(Independent(), exponent)

    def rounds(self, bounds):
        """Return the number of rounds."""
        return self._on_power.rounds(bounds)

    def begin(self, bounds, name, degree, given):
        """Return the state before the first round."""
        return self._on_power.begin(bounds, name, degree, given)

    def letters(self, bounds, state):
        """Return the letters of a round, one for each port."""
        return self._on_power.letters(bounds, state)

    def receive(self, bounds, state, received):
        """Return the state after a round."""
        return self._on_power.receive(bounds, state, received)

    def output(self, bounds, state):
        """Return 1 in the set, and 0 otherwise."""
        return self._on_power.output(bounds, state)
