"""Two algorithms one after the other."""

from nearby.running import begun


class Then:
    """The algorithm that runs a first one, and then a second one on its outputs.

    A state is a tuple of the number of rounds that the first one still has, the
    name, the degree, and the state of the part at work.
    """

    def __init__(self, first, second):
        self.named = first.named or second.named
        self._first = first
        self._second = second

    def rounds(self, bounds):
        """Return the number of rounds."""
        return self._first.rounds(bounds) + self._second.rounds(bounds)

    def begin(self, bounds, name, degree, given):
        """Return the state before the first round."""
        inner = begun(self._first, bounds, name, degree, given)
        return self._handed_over(bounds, (self._first.rounds(bounds), name, degree, inner))

    def letters(self, bounds, state):
        """Return the letters of a round, one for each port."""
        part = self._second if state[0] == 0 else self._first
        return part.letters(bounds, state[3])

    def receive(self, bounds, state, received):
        """Return the state after a round."""
        left, name, degree, inner = state
        if left == 0:
            return 0, name, degree, self._second.receive(bounds, inner, received)
        after = self._first.receive(bounds, inner, received)
        return self._handed_over(bounds, (left - 1, name, degree, after))

    def output(self, bounds, state):
        """Return the output of the second algorithm."""
        return self._second.output(bounds, state[3])

    def _handed_over(self, bounds, state):
        """Return the state in which the second algorithm has begun, if its time has come."""
        left, name, degree, inner = state
        if left > 0:
            return state
        between = self._first.output(bounds, inner)
        return 0, name, degree, begun(self._second, bounds, name, degree, between)
