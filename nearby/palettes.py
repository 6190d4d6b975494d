"""Palettes, and the shrinking of one color."""


def is_prime(number):
    """Return True if an integer is a prime, otherwise False."""
    if number < 2:
        return False
    divisor = 2
    while divisor * divisor <= number:
        if number % divisor == 0:
            return False
        divisor += 1
    return True


def prime_from(number):
    """Return the least prime that is at least a number."""
    prime = max(2, number)
    while not is_prime(prime):
        prime += 1
    return prime


def step_of(degree, colors):
    """Return the step (q, k) of a degree number and a number of colors."""
    digits = max(1, colors.bit_length())
    steps = []
    for k in range(1, digits + 1):
        least = max(degree * k + 1, _least_root(colors, k + 1))
        steps.append((prime_from(least), k))
    return min(steps)


def _least_root(number, exponent):
    """Return the least integer, at least 1, whose power is at least a number."""
    low = 1
    high = 1
    while _power(high, exponent) < number:
        high = high * 2
    while low < high:
        middle = (low + high) // 2
        if _power(middle, exponent) < number:
            low = middle + 1
        else:
            high = middle
    return low


def _power(base, exponent):
    worth = 1
    for _ in range(exponent):
        worth = worth * base
    return worth


def palettes(bounds):
    """Return the list of the palettes of bounds."""
    found = [bounds[1]]
    while True:
        prime, _ = step_of(bounds[0], found[-1])
        if prime * prime >= found[-1]:
            return found
        found.append(prime * prime)


def shrunk(color, others, step):
    """Return the new color of a node, from its color and those of its neighbors."""
    prime, most = step
    for place in range(prime):
        worth = _worth(color, place, prime, most)
        if worth not in [_worth(other, place, prime, most) for other in others]:
            return prime * place + worth
    # Only a neighbor of the same color leads here: the node keeps a valid color.
    return _worth(color, 0, prime, most)


def _worth(color, place, prime, most):
    """Return the value at a place of the polynomial of a color."""
    worth = 0
    factor = 1
    for _ in range(most + 1):
        worth = (worth + color % prime * factor) % prime
        color = color // prime
        factor = factor * place % prime
    return worth
