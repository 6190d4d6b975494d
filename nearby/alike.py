"""Nodes that are alike."""

from nearby.balls import ball_of, views_by_kind


def are_alike(first, node, second, other, radius, named):
    """Return True if two nodes are alike as far as a radius, otherwise False."""
    if named:
        return ball_of(first, node, radius) == ball_of(second, other, radius)
    near, far = _view_kinds(first, second, radius)
    return near[node] == far[other]


def alike_radius(first, node, second, other, named):
    """Return the greatest radius as far as which two nodes are alike, -1 if there is none, None for every radius."""
    differs = _enough(first, second, named)
    if are_alike(first, node, second, other, differs, named):
        return None
    # Alike as far as `alike`, not as far as `differs`, and so it is for all numbers below and above.
    alike = -1
    while differs - alike > 1:
        middle = (alike + differs) // 2
        if are_alike(first, node, second, other, middle, named):
            alike = middle
        else:
            differs = middle
    return alike


def alike_pairs(first, second, radius, named):
    """Return the ascending list of the pairs of nodes that are alike as far as a radius."""
    if named:
        near = [ball_of(first, node, radius) for node in range(first.size())]
        far = [ball_of(second, node, radius) for node in range(second.size())]
    else:
        near, far = _view_kinds(first, second, radius)
    return [(node, other) for node, kind in enumerate(near) for other, far_kind in enumerate(far) if kind == far_kind]


def _enough(first, second, named):
    """Return a radius from which on nodes do not differ any more if they did not before."""
    if named:
        return max(first.size(), second.size())
    return first.size() + second.size()


def _view_kinds(first, second, depth):
    """Return the lists of numbers for the nodes of both networks that are equal for equal views."""
    # Equal numbers, because to compare two deep views part by part takes too long.
    inputs = [[None] * first.size(), [None] * second.size()]
    kinds, _ = views_by_kind([first, second], inputs, min(depth, _enough(first, second, False)))
    return kinds[0], kinds[1]
