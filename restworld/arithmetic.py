"""Plain arithmetic for several modules; nothing is checked here."""


def bezout(one, other):
    """A pair (u, v) for which u * one + v * other is the greatest common divisor."""
    u, v, next_u, next_v = 1, 0, 0, 1
    left, right = one, other
    while right:
        times = left // right
        left, right = right, left - times * right
        u, next_u = next_u, u - times * next_u
        v, next_v = next_v, v - times * next_v
    if left < 0:
        return -u, -v
    return u, v


def inverse(number, base):
    """The rest that, times the number, leaves the rest of 1; both have no common divisor above 1."""
    u, _ = bezout(number % base, base)
    return u % base


def times_in(number, prime):
    """How often the prime divides the number, which is not 0."""
    times = 0
    left = number
    while left % prime == 0:
        left //= prime
        times += 1
    return times


def raised(number, times):
    """The number to the power of so many times."""
    product = 1
    factor = number
    left = times
    while left:
        if left & 1:
            product *= factor
        left >>= 1
        if left:
            factor *= factor
    return product


def raised_by(number, times, base):
    """The rest of the number to the power of so many times."""
    product = 1 % base
    factor = number % base
    left = times
    while left:
        if left & 1:
            product = product * factor % base
        left >>= 1
        factor = factor * factor % base
    return product
