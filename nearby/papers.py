"""Papers that show that rules cannot do a task."""

from nearby.balls import ball_of, views_by_kind
from nearby.building import path, renamed
from nearby.errors import InvalidInput, TooLarge
from nearby.tasks import answers, most_ones

MOST_KINDS = 40
MOST_COUNTED_KINDS = 14


def check_paper(paper):
    """Return True if an impossibility paper is right, otherwise False."""
    _, answers_found = _rule_by_kind(paper)
    return answers_found is None


def rule_of_paper(paper):
    """Return a dict from balls or views to answers that solve the task, or None if the paper is right."""
    seen, answers_found = _rule_by_kind(paper)
    if answers_found is None:
        return None
    return {seen[kind]: answer for kind, answer in enumerate(answers_found)}


def two_paths(radius):
    """Return a right paper of two paths for two colors."""
    if radius < 1:
        raise InvalidInput("the radius is less than 1")
    # The middle nodes of both halves see the same with and without a node
    # between the halves, which makes their distance even or odd.
    half = 2 * radius + 1
    left = list(range(half))
    right = list(range(half, 2 * half))
    near = renamed(path(2 * half), left + right)
    far = renamed(path(2 * half + 1), left + [2 * half] + right)
    return ("colors", 2), radius, True, [near, far]


def _rule_by_kind(paper):
    """Return the list of the different balls or views, and the list of their answers, or None."""
    task, radius, named, networks = paper
    if named:
        kinds, seen = _balls_by_kind(networks, radius)
    else:
        kinds, seen = views_by_kind(networks, [[None] * network.size() for network in networks], radius)
    counted = task[0] in ("cover", "dominating")
    if len(seen) > (MOST_COUNTED_KINDS if counted else MOST_KINDS):
        raise TooLarge("there are too many different balls or views")
    if task[0] == "colors":
        # More colors than there are balls or views are never needed.
        task = ("colors", min(task[1], len(seen)))
    choices = Choices(_domains(task, networks, kinds, len(seen)), task[0] == "colors")
    for network, row in zip(networks, kinds):
        _ask_of_links(choices, task, network, row)
        _ask_of_nodes(choices, task, network, row)
        if counted:
            choices.limit([(kind, 1) for kind in row], most_ones(task, network))
    return seen, choices.found()


def _balls_by_kind(networks, radius):
    """Return the numbers of the balls of all nodes, in a list for each network, and the balls by number."""
    known = {}
    kinds = []
    for network in networks:
        balls = [ball_of(network, node, radius) for node in range(network.size())]
        kinds.append([known.setdefault(ball, len(known)) for ball in balls])
    return kinds, list(known)


def _domains(task, networks, kinds, count):
    domains = [[]] * count
    for network, row in zip(networks, kinds):
        for node, kind in enumerate(row):
            domains[kind] = answers(task, network.degree(node))
    return domains


def _ask_of_links(choices, task, network, kinds):
    """Ask for what the task says of the answers of two neighbors."""
    for node, other in network.links():
        kind = kinds[node]
        far_kind = kinds[other]
        if task[0] == "colors":
            for color in range(task[1]):
                choices.not_both((kind, color), (far_kind, color))
        elif task[0] == "independent":
            choices.not_both((kind, 1), (far_kind, 1))
        elif task[0] == "cover":
            choices.not_both((kind, 0), (far_kind, 0))
        elif task[0] == "matching":
            port = network.neighbors(node).index(other)
            choices.both_or_none((kind, port), (far_kind, network.far_port(node, port)))
            choices.not_both((kind, -1), (far_kind, -1))


def _ask_of_nodes(choices, task, network, kinds):
    """Ask for what the task says of a node and all its neighbors."""
    if task[0] in ("independent", "dominating"):
        for node, kind in enumerate(kinds):
            choices.some([(kind, 1)] + [(kinds[other], 1) for other in network.neighbors(node)])


class Choices:
    """Choices of an answer for each kind of node, with conditions.

    A choice is a tuple (kind, answer). Inside, a choice is an even number, and
    that it is not made is the odd number above it; both are called literals.
    """

    def __init__(self, domains, alike):
        self._domains = [list(row) for row in domains]
        # If all answers are alike, one of those not chosen yet stands for all.
        self._alike = alike
        self._literals = {}
        for kind, row in enumerate(domains):
            for answer in row:
                self._literals[(kind, answer)] = 2 * len(self._literals)
        count = 2 * len(self._literals)
        self._followers = [[] for _ in range(count)]
        self._clauses = [[] for _ in range(count)]
        self._clauses_told = {}
        self._pairs_told = {}
        self._limits = []
        for kind, row in enumerate(domains):
            self.some([(kind, answer) for answer in row])
            for at, answer in enumerate(row):
                for other in row[:at]:
                    self.not_both((kind, answer), (kind, other))

    def not_both(self, first, second):
        """Ask that of two choices at most one is made."""
        self._follows(self._literals[first], self._literals[second] + 1)

    def both_or_none(self, first, second):
        """Ask that of two choices both or none are made."""
        self._follows(self._literals[first], self._literals[second])
        self._follows(self._literals[second], self._literals[first])

    def some(self, wanted):
        """Ask that of a list of choices at least one is made."""
        clause = sorted(set([self._literals[choice] for choice in wanted]))
        if tuple(clause) not in self._clauses_told:
            self._clauses_told[tuple(clause)] = True
            for literal in clause:
                self._clauses[literal].append(clause)

    def limit(self, counted, most):
        """Ask that of a list of choices, some of them more than once in it, at most a number are made."""
        self._limits.append(([self._literals[choice] for choice in counted], most))

    def found(self):
        """Return the list of the answers, or None if the conditions cannot hold."""
        known = self._known_at_first()
        return None if known is None else self._search(known)

    def _follows(self, literal, follower):
        """Keep that a literal leads to another one, and so the opposites the other way round."""
        if (literal, follower) not in self._pairs_told:
            self._pairs_told[(literal, follower)] = True
            self._pairs_told[(follower ^ 1, literal ^ 1)] = True
            self._followers[literal].append(follower)
            self._followers[follower ^ 1].append(literal ^ 1)

    def _known_at_first(self):
        """Return which literals hold because their opposites alone cannot, or None for a contradiction."""
        known = [False] * len(self._followers)
        for literal in range(len(known)):
            if not self._set(list(known), literal) and not self._set(known, literal ^ 1):
                return None
        return known

    def _set(self, known, literal):
        """Keep a literal, and all that follows from it; return False for a contradiction."""
        waiting = [literal]
        while waiting:
            new = waiting.pop()
            if known[new ^ 1]:
                return False
            if known[new]:
                continue
            known[new] = True
            waiting.extend(self._followers[new])
            for clause in self._clauses[new ^ 1]:
                left = [other for other in clause if not known[other ^ 1]]
                if not left:
                    return False
                if len(left) == 1:
                    waiting.append(left[0])
        return True

    def _search(self, known):
        """Return the list of the answers with what is known, or None."""
        if not all([sum([1 for literal in counted if known[literal]]) <= most for counted, most in self._limits]):
            return None
        open_answers = [self._open_answers(known, kind) for kind in range(len(self._domains))]
        fewest = [row for row in open_answers if len(row) > 1]
        if not fewest:
            return [row[0] for row in open_answers]
        kind = open_answers.index(min(fewest, key=len))
        for answer in self._different(known, open_answers[kind]):
            tried = list(known)
            if self._set(tried, self._literals[(kind, answer)]):
                answers_found = self._search(tried)
                if answers_found is not None:
                    return answers_found
        return None

    def _open_answers(self, known, kind):
        return [answer for answer in self._domains[kind] if not known[self._literals[(kind, answer)] ^ 1]]

    def _different(self, known, open_answers):
        """Return the answers that are to be tried."""
        if not self._alike:
            return open_answers
        chosen = set([answer for (kind, answer), literal in self._literals.items() if known[literal]])
        fresh = [answer for answer in open_answers if answer not in chosen]
        return [answer for answer in open_answers if answer in chosen or answer == fresh[0]]
