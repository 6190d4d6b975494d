"""Runs of algorithms in rounds."""

from nearby.errors import InvalidBounds, InvalidInput
from nearby.network import suits


def run(network, bounds, algorithm, *, given=None):
    """Return the list of the outputs of all nodes."""
    states = first_states(network, bounds, algorithm, given)
    states = _after(network, bounds, algorithm, states, algorithm.rounds(bounds))
    return [algorithm.output(bounds, state) for state in states]


def states_after(network, bounds, algorithm, rounds, *, given=None):
    """Return the list of the states of all nodes after a number of rounds."""
    states = first_states(network, bounds, algorithm, given)
    if not 0 <= rounds <= algorithm.rounds(bounds):
        raise InvalidInput("the run does not have this number of rounds")
    return _after(network, bounds, algorithm, states, rounds)


def states_by_round(network, bounds, algorithm, given):
    """Return the lists of the states of all nodes after 0, 1, .., all rounds."""
    rows = [first_states(network, bounds, algorithm, given)]
    ends = ends_of(network)
    for _ in range(algorithm.rounds(bounds)):
        rows.append(after_round(ends, bounds, algorithm, rows[-1]))
    return rows


def letter_count(network, bounds, algorithm):
    """Return the number of the letters of a run without inputs."""
    return 2 * len(network.links()) * algorithm.rounds(bounds)


def first_states(network, bounds, algorithm, given):
    """Return the states of all nodes before the first round."""
    if not suits(network, bounds):
        raise InvalidBounds("the bounds do not suit the network")
    inputs = inputs_of(network, given)
    names = network.names()
    return [begun(algorithm, bounds, names[node], network.degree(node), inputs[node]) for node in range(len(names))]


def inputs_of(network, given):
    """Return the list of the inputs of all nodes."""
    if given is None:
        return [None] * network.size()
    if len(given) != network.size():
        raise InvalidInput("there is not one input for each node")
    return list(given)


def begun(algorithm, bounds, name, degree, given):
    """Return the state of a node before the first round."""
    # A nameless algorithm must not even get the name by accident.
    known = name if algorithm.named else None
    return algorithm.begin(bounds, known, degree, given)


def ends_of(network):
    """Return for each node the list of the tuples (neighbor, port that leads back), by ports."""
    return [
        [(other, network.far_port(node, port)) for port, other in enumerate(network.neighbors(node))]
        for node in range(network.size())
    ]


def after_round(ends, bounds, algorithm, states):
    """Return the states of all nodes after one more round."""
    sent = [algorithm.letters(bounds, state) for state in states]
    received = [[sent[other][port] for other, port in row] for row in ends]
    return [algorithm.receive(bounds, state, row) for state, row in zip(states, received)]


def _after(network, bounds, algorithm, states, rounds):
    ends = ends_of(network)
    for _ in range(rounds):
        states = after_round(ends, bounds, algorithm, states)
    return states
