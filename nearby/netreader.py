"""Texts of networks."""

from nearby.errors import InvalidText
from nearby.network import Network

MOST_DIGITS = 9


def network_text(network):
    """Return the text of a network."""
    names = network.names()
    lines = []
    for node in range(network.size()):
        told = [names[node]] + [names[other] for other in network.neighbors(node)]
        lines.append(" ".join(["node"] + [str(name) for name in told]) + "\n")
    return "".join(lines)


def read_network(text):
    """Return the network of a text."""
    lines = _lines_of(text)
    rows = _read_rows(lines)
    if not rows:
        raise InvalidText(len(lines) + 1)
    _check_others(rows)
    nodes = {told[0]: node for node, (_, told) in enumerate(rows)}
    return Network(list(nodes), [[nodes[name] for name in told[1:]] for _, told in rows])


def _lines_of(text):
    # Only the newline ends a line: splitlines would also split elsewhere.
    lines = text.split("\n")
    if lines[-1] == "":
        lines.pop()
    return lines


def _read_rows(lines):
    """Return a tuple (line number, names in the line) for each line of a node."""
    rows = []
    seen = set()
    for number, line in enumerate(lines, start=1):
        if line == "" or line.startswith("#"):
            continue
        told = _names_in(line)
        if told is None or told[0] in seen or len(set(told)) != len(told):
            raise InvalidText(number)
        seen.add(told[0])
        rows.append((number, told))
    return rows


def _names_in(line):
    """Return the names in the line of a node, or None for another form."""
    words = line.split(" ")
    if words[0] != "node" or len(words) < 2:
        return None
    if not all([is_number(word) for word in words[1:]]):
        return None
    return [int(word) for word in words[1:]]


def is_number(word):
    """Return True if a word is a decimal number as names are written, otherwise False."""
    if not (word.isascii() and word.isdigit()):
        return False
    return len(word) <= MOST_DIGITS and (word == "0" or not word.startswith("0"))


def _check_others(rows):
    told_by = {told[0]: told for _, told in rows}
    for number, told in rows:
        for name in told[1:]:
            if name not in told_by or told[0] not in told_by[name]:
                raise InvalidText(number)
