"""Balls and views, and the outputs that follow from them."""

from nearby.errors import InvalidBall
from nearby.network import distances
from nearby.running import begun, inputs_of


def ball_of(network, node, radius, *, given=None):
    """Return the ball of a node."""
    inputs = inputs_of(network, given)
    names = network.names()
    away = distances(network, node)
    near = [other for other in range(network.size()) if away[other] is not None and away[other] <= radius]
    places = sorted([(away[other], names[other], other) for other in near])
    entries = [
        (name, distance, network.degree(other), inputs[other], _ports_known(network, other, away, radius))
        for distance, name, other in places
    ]
    return names[node], radius, tuple(entries)


def _ports_known(network, node, away, radius):
    names = network.names()
    known = []
    for port, other in enumerate(network.neighbors(node)):
        if away[node] < radius or away[other] < radius:
            known.append((names[other], network.far_port(node, port)))
        else:
            known.append(None)
    return tuple(known)


def view_of(network, node, depth, *, given=None):
    """Return the view of a node."""
    kinds, views = views_by_kind([network], [inputs_of(network, given)], depth)
    return views[kinds[0][node]]


def views_by_kind(networks, inputs, depth):
    """Return the numbers of the views of all nodes, in a list for each network, and the views by number.

    Equal views have the same number, also in different networks. The numbers
    are given from 0 on, in the order of the networks and of their nodes.
    """
    bases = []
    roots = [_base_kinds(bases, network, row) for network, row in zip(networks, inputs)]
    kinds = roots
    # Equal views are one tuple. So a view of any depth stays small in memory,
    # and comparing two views does not go through all their parts.
    views = bases
    for _ in range(depth):
        known = {}
        kinds = [_deeper_kinds(known, network, roots[at], kinds[at]) for at, network in enumerate(networks)]
        views = [bases[root] + (tuple([(port, views[kind]) for port, kind in row]),) for root, row in known]
    return kinds, views


def _base_kinds(bases, network, inputs):
    kinds = []
    for node, given in enumerate(inputs):
        base = (network.degree(node), given)
        if base not in bases:
            bases.append(base)
        kinds.append(bases.index(base))
    return kinds


def _deeper_kinds(known, network, roots, kinds):
    """Return the numbers of the views that are deeper by 1, by what is known of those before."""
    deeper = []
    for node, root in enumerate(roots):
        row = [(network.far_port(node, port), kinds[other]) for port, other in enumerate(network.neighbors(node))]
        deeper.append(known.setdefault((root, tuple(row)), len(known)))
    return deeper


def output_in_ball(ball, bounds, algorithm):
    """Return the output of the node of a ball."""
    name, radius, entries = ball
    rounds = algorithm.rounds(bounds)
    if radius < rounds:
        raise InvalidBall("the radius is less than the number of rounds")
    near = [entry for entry in entries if entry[1] <= rounds]
    states = {entry[0]: begun(algorithm, bounds, entry[0], entry[2], entry[3]) for entry in near}
    for reach in reversed(range(rounds)):
        sent = {other: algorithm.letters(bounds, state) for other, state in states.items()}
        near = [entry for entry in near if entry[1] <= reach]
        received = {entry[0]: [sent[other][port] for other, port in entry[4]] for entry in near}
        states = {other: algorithm.receive(bounds, states[other], row) for other, row in received.items()}
    return algorithm.output(bounds, states[name])


def output_in_view(view, bounds, algorithm):
    """Return the output of the node of a view for a nameless algorithm."""
    rounds = algorithm.rounds(bounds)
    if not _is_deep(view, rounds):
        raise InvalidBall("the depth is less than the number of rounds")
    levels = _levels_of(view, rounds)
    links = [_links_of(level, below) for level, below in zip(levels, levels[1:])]
    states = [[begun(algorithm, bounds, None, part[0], part[1]) for part in level] for level in levels]
    for reach in reversed(range(rounds)):
        sent = [[algorithm.letters(bounds, state) for state in level] for level in states]
        states = [_level_after(algorithm, bounds, states[at], links[at], sent[at + 1]) for at in range(reach + 1)]
    return algorithm.output(bounds, states[0][0])


def _level_after(algorithm, bounds, states, links, sent):
    """Return the states of a level after a round, from the letters of the level below."""
    received = [[sent[below][port] for port, below in row] for row in links]
    return [algorithm.receive(bounds, state, row) for state, row in zip(states, received)]


def _is_deep(view, depth):
    """Return True if a view has at least a depth, otherwise False."""
    for _ in range(depth):
        if len(view) == 2:
            return False
        if not view[2]:
            return True
        view = view[2][0][1]
    return True


def _levels_of(view, depth):
    """Return the lists of the different views that are met after 0, 1, .., depth links."""
    levels = [[view]]
    for _ in range(depth):
        below = []
        for part in levels[-1]:
            for _, inner in part[2]:
                if inner not in below:
                    below.append(inner)
        levels.append(below)
    return levels


def _links_of(level, below):
    return [[(port, below.index(inner)) for port, inner in part[2]] for part in level]


class Gather:
    """The algorithm whose output is the ball of the node; so are its states."""

    def __init__(self, radius):
        self.named = True
        self._radius = radius

    def rounds(self, bounds):
        """Return the number of rounds."""
        return self._radius

    def begin(self, bounds, name, degree, given):
        """Return the state before the first round: the ball with the radius 0."""
        return name, 0, ((name, 0, degree, given, (None,) * degree),)

    def letters(self, bounds, state):
        """Return the letters of a round: the ball, and the port through which it goes."""
        degree = state[2][0][2]
        return [(port, state) for port in range(degree)]

    def receive(self, bounds, state, received):
        """Return the state after a round: the ball with a radius greater by 1."""
        name, radius, entries = state
        known = {name: _with_ports(entries[0], 0, tuple([(ball[0], far) for far, ball in received]))}
        for port, (far, ball) in enumerate(received):
            for entry in _with_link(ball, far, (name, port)):
                _learn(known, entry)
        return name, radius + 1, tuple(sorted(known.values(), key=lambda entry: (entry[1], entry[0])))

    def output(self, bounds, state):
        """Return the ball."""
        return state


def _with_link(ball, port, end):
    """Return a neighbor's entries as seen from the end to which a port of the neighbor leads."""
    seen = []
    for entry in ball[2]:
        ports = entry[4]
        if entry[0] == ball[0]:
            ports = ports[:port] + (end,) + ports[port + 1:]
        seen.append(_with_ports(entry, entry[1] + 1, ports))
    return seen


def _learn(known, entry):
    """Put an entry together with what is known of its node."""
    name = entry[0]
    if name not in known:
        known[name] = entry
        return
    old = known[name]
    both = [new if end is None else end for end, new in zip(old[4], entry[4])]
    known[name] = _with_ports(old, min(old[1], entry[1]), tuple(both))


def _with_ports(entry, distance, ports):
    return entry[0], distance, entry[2], entry[3], ports


class GatherView:
    """The nameless algorithm whose output is the view of the node; so are its states."""

    def __init__(self, depth):
        self.named = False
        self._depth = depth

    def rounds(self, bounds):
        """Return the number of rounds."""
        return self._depth

    def begin(self, bounds, name, degree, given):
        """Return the state before the first round: the view with the depth 0."""
        return degree, given

    def letters(self, bounds, state):
        """Return the letters of a round: the view, and the port through which it goes."""
        return [(port, state) for port in range(state[0])]

    def receive(self, bounds, state, received):
        """Return the state after a round: the view with a depth greater by 1."""
        return state[0], state[1], tuple(received)

    def output(self, bounds, state):
        """Return the view."""
        return state
