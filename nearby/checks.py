"""Checks that neighbors make, and least radii."""

from nearby.papers import check_paper


class Content:
    """The nameless algorithm by which each node checks the answers near it.

    A state is a tuple (degree, answer), and after the round (degree, output).
    """

    def __init__(self, task):
        self.named = False
        self._task = task

    def rounds(self, bounds):
        """Return the number of rounds."""
        return 1

    def begin(self, bounds, name, degree, given):
        """Return the state before the first round."""
        return degree, given

    def letters(self, bounds, state):
        """Return the letters of a round: the answer, or for a matching 1 at the port that is the answer."""
        degree, answer = state
        if self._task[0] != "matching":
            return [answer] * degree
        # At the other end, -1 says that the answer is no port at all.
        other = 0 if 0 <= answer < degree else -1
        return [1 if port == answer else other for port in range(degree)]

    def receive(self, bounds, state, received):
        """Return the state after a round."""
        degree, answer = state
        return degree, 1 if _is_content(self._task, answer, received) else 0

    def output(self, bounds, state):
        """Return 1 if the node is content, and 0 otherwise."""
        return state[1]


def _is_content(task, answer, received):
    if task[0] == "colors":
        return 0 <= answer < task[1] and answer not in received
    if task[0] == "independent":
        return answer in (0, 1) and (1 in received) == (answer == 0)
    if answer == -1:
        return -1 not in received
    return 0 <= answer < len(received) and received[answer] == 1


def least_radius(task, named, networks, *, most=4):
    """Return the least radius for which a rule solves a task on all networks, or None if it is too great."""
    for radius in range(most + 1):
        if not check_paper((task, radius, named, networks)):
            return radius
    return None
