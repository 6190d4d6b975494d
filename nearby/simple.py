"""Simple algorithms."""


class Quiet:
    """The nameless algorithm with 0 rounds whose output is always the same."""

    def __init__(self, value):
        self.named = False
        self._value = value

    def rounds(self, bounds):
        """Return the number of rounds."""
        return 0

    def begin(self, bounds, name, degree, given):
        """Return the state before the first round: the degree."""
        return degree

    def letters(self, bounds, state):
        """Return the letters of a round, one for each port."""
        return [None] * state

    def receive(self, bounds, state, received):
        """Return the state after a round."""
        return state

    def output(self, bounds, state):
        """Return the value."""
        return self._value


class Echo:
    """The nameless algorithm with 0 rounds whose output is the input."""

    def __init__(self):
        self.named = False

    def rounds(self, bounds):
        """Return the number of rounds."""
        return 0

    def begin(self, bounds, name, degree, given):
        """Return the state before the first round: the degree and the input."""
        return degree, given

    def letters(self, bounds, state):
        """Return the letters of a round, one for each port."""
        return [None] * state[0]

    def receive(self, bounds, state, received):
        """Return the state after a round."""
        return state

    def output(self, bounds, state):
        """Return the input."""
        return state[1]


class Names:
    """The algorithm whose output are the names within a distance."""

    def __init__(self, count):
        self.named = True
        self._count = count

    def rounds(self, bounds):
        """Return the number of rounds."""
        return self._count

    def begin(self, bounds, name, degree, given):
        """Return the state before the first round: the degree and the names known."""
        return degree, (name,)

    def letters(self, bounds, state):
        """Return the letters of a round, one for each port."""
        return [state[1]] * state[0]

    def receive(self, bounds, state, received):
        """Return the state after a round."""
        known = list(state[1])
        for names in received:
            known.extend(names)
        return state[0], tuple(sorted(set(known)))

    def output(self, bounds, state):
        """Return the ascending tuple of the names."""
        return state[1]


class Spread:
    """The nameless algorithm whose output is the least input within a distance."""

    def __init__(self, count):
        self.named = False
        self._count = count

    def rounds(self, bounds):
        """Return the number of rounds."""
        return self._count

    def begin(self, bounds, name, degree, given):
        """Return the state before the first round: the degree and the least input known."""
        return degree, given

    def letters(self, bounds, state):
        """Return the letters of a round, one for each port."""
        return [state[1]] * state[0]

    def receive(self, bounds, state, received):
        """Return the state after a round."""
        return state[0], min([state[1]] + received)

    def output(self, bounds, state):
        """Return the least input."""
        return state[1]
