"""Standard networks, and networks made from others."""

from nearby.errors import InvalidNetwork
from nearby.network import Network


def path(count):
    """Return the path of a number of nodes."""
    return grid(1, count)


def ring(count):
    """Return the ring of a number of nodes."""
    if count < 3:
        raise InvalidNetwork("a ring has at least 3 nodes")
    return _standard([[(node - 1) % count, (node + 1) % count] for node in range(count)])


def grid(rows, columns):
    """Return the grid of a number of rows and a number of columns."""
    if rows < 1 or columns < 1:
        raise InvalidNetwork("there are no nodes")
    return _standard([_grid_row(row, column, rows, columns) for row in range(rows) for column in range(columns)])


def _grid_row(row, column, rows, columns):
    places = [(row - 1, column), (row, column - 1), (row, column + 1), (row + 1, column)]
    return [down * columns + right for down, right in places if 0 <= down < rows and 0 <= right < columns]


def star(count):
    """Return the star of a number of nodes, its center among them."""
    if count < 1:
        raise InvalidNetwork("a star has at least its center")
    return _standard([list(range(1, count))] + [[0] for _ in range(1, count)])


def _standard(neighbors):
    return Network(list(range(len(neighbors))), neighbors)


def renamed(network, names):
    """Return the network with other names."""
    return Network(names, _rows_of(network))


def turned(network, orders):
    """Return the network with another order of the ports of each node."""
    rows = _rows_of(network)
    if len(orders) != len(rows):
        raise InvalidNetwork("there is not one order for each node")
    if any([sorted(order) != list(range(len(row))) for row, order in zip(rows, orders)]):
        raise InvalidNetwork("an order does not contain each port once")
    return Network(network.names(), [[row[port] for port in order] for row, order in zip(rows, orders)])


def _rows_of(network):
    return [network.neighbors(node) for node in range(network.size())]
