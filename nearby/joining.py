"""Two algorithms one after the other."""

from nearby.running import begun


class Then:
    """The algorithm that runs a first one, and then a second one on its outputs.

    A state is a tuple of the number of rounds done, the name, the degree, and
    the state of the part at work.
    """

    def __init__(self, first, second):
        self.named = first.named or second.named
        self._first = first
        self._second = second

    def rounds(self, bounds):
        """Return the number of rounds."""
        return self._first.rounds(bounds) + self._second.rounds(bounds)

    def begin(self, bounds, name, degree, given):
        """Return the state before the first round."""
        inner = begun(self._first, bounds, name, degree, given)
        return self._handed_over(bounds, (0, name, degree, inner))

    def letters(self, bounds, state):
        """Return the letters of a round, one for each port."""
        return self._part(bounds, state[0]).letters(bounds, state[3])

    def receive(self, bounds, state, received):
        """Return the state after a round."""
        done, name, degree, inner = state
        after = self._part(bounds, done).receive(bounds, inner, received)
        return self._handed_over(bounds, (done + 1, name, degree, after))

    def output(self, bounds, state):
        """Return the output of the second algorithm."""
        return self._second.output(bounds, state[3])

    def _part(self, bounds, done):
        return self._first if done < self._first.rounds(bounds) else self._second

    def _handed_over(self, bounds, state):
        """Return the state in which the second algorithm has begun, if its time has come."""
        done, name, degree, inner = state
        if done != self._first.rounds(bounds):
            return state
        between = self._first.output(bounds, inner)
        return done, name, degree, begun(self._second, bounds, name, degree, between)
