"""Steady runs, which come right from any memories."""

from nearby.errors import InvalidInput
from nearby.running import after_round, ends_of, first_states, states_by_round


def right_memories(network, bounds, algorithm, *, given=None):
    """Return the list of the memories of all nodes with the states of a run."""
    return _memories_of(states_by_round(network, bounds, algorithm, given))


def steady_step(network, bounds, algorithm, memories, *, given=None):
    """Return the list of the memories after one more round."""
    rows = [_checked_first_states(network, bounds, algorithm, memories, given)]
    ends = ends_of(network)
    for done in range(algorithm.rounds(bounds)):
        rows.append(after_round(ends, bounds, algorithm, [memory[done] for memory in memories]))
    return _memories_of(rows)


def run_steady(network, bounds, algorithm, memories, rounds, *, given=None):
    """Return the list of the outputs after a number of rounds."""
    # Without a round nothing else would look for errors.
    _checked_first_states(network, bounds, algorithm, memories, given)
    for _ in range(rounds):
        memories = steady_step(network, bounds, algorithm, memories, given=given)
    return [algorithm.output(bounds, memory[-1]) for memory in memories]


def _checked_first_states(network, bounds, algorithm, memories, given):
    """Return the states before the first round, after a look at all arguments."""
    states = first_states(network, bounds, algorithm, given)
    if len(memories) != network.size():
        raise InvalidInput("there is not one memory for each node")
    return states


def _memories_of(rows):
    """Return the memories from the lists of the states of all nodes after 0, 1, .. rounds."""
    return [tuple([states[node] for states in rows]) for node in range(len(rows[0]))]
