"""Colorings, and the algorithms that make them."""

from nearby.joining import Then
from nearby.palettes import palettes, shrunk, step_of


class Shrink:
    """The algorithm that shrinks the names, as colors, along the palettes.

    A state is a tuple (degree, color, steps) with the steps still to be done.
    """

    def __init__(self):
        self.named = True

    def rounds(self, bounds):
        """Return the number of rounds."""
        return len(palettes(bounds)) - 1

    def begin(self, bounds, name, degree, given):
        """Return the state before the first round."""
        return degree, name, tuple([step_of(bounds[0], colors) for colors in palettes(bounds)[:-1]])

    def letters(self, bounds, state):
        """Return the letters of a round: the color."""
        return [state[1]] * state[0]

    def receive(self, bounds, state, received):
        """Return the state after a round."""
        degree, color, steps = state
        return degree, shrunk(color, received, steps[0]), steps[1:]

    def output(self, bounds, state):
        """Return the color."""
        return state[1]


class Fewer:
    """The nameless algorithm that leaves D + 1 colors of a coloring.

    A state is a tuple (degree, color, colors) with the number of colors left.
    """

    def __init__(self, colors):
        self.named = False
        self._colors = colors

    def rounds(self, bounds):
        """Return the number of rounds."""
        return max(0, self._colors - bounds[0] - 1)

    def begin(self, bounds, name, degree, given):
        """Return the state before the first round."""
        return degree, given, self._colors

    def letters(self, bounds, state):
        """Return the letters of a round: the color."""
        return [state[1]] * state[0]

    def receive(self, bounds, state, received):
        """Return the state after a round."""
        degree, color, colors = state
        if color == colors - 1:
            color = _least_free(received)
        return degree, color, colors - 1

    def output(self, bounds, state):
        """Return the color."""
        return state[1]


def _least_free(colors):
    free = 0
    while free in colors:
        free += 1
    return free


class Colors:
    """The algorithm that does Shrink and then Fewer.

    A state is a tuple (last palette, state of both parts).
    """

    def __init__(self):
        self.named = True

    def rounds(self, bounds):
        """Return the number of rounds."""
        return _shrink_and_fewer(palettes(bounds)[-1]).rounds(bounds)

    def begin(self, bounds, name, degree, given):
        """Return the state before the first round."""
        last = palettes(bounds)[-1]
        return last, _shrink_and_fewer(last).begin(bounds, name, degree, given)

    def letters(self, bounds, state):
        """Return the letters of a round, one for each port."""
        return _shrink_and_fewer(state[0]).letters(bounds, state[1])

    def receive(self, bounds, state, received):
        """Return the state after a round."""
        return state[0], _shrink_and_fewer(state[0]).receive(bounds, state[1], received)

    def output(self, bounds, state):
        """Return the color."""
        return _shrink_and_fewer(state[0]).output(bounds, state[1])


def _shrink_and_fewer(last):
    return Then(Shrink(), Fewer(last))


def is_coloring(network, outputs, colors):
    """Return True if a list is a coloring with a number of colors, otherwise False."""
    if len(outputs) != network.size() or not all([0 <= color < colors for color in outputs]):
        return False
    return all([outputs[node] != outputs[other] for node, other in network.links()])
