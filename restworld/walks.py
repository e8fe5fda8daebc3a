"""How the values of a run go on, as pairs of neighbouring values; nothing is checked here.

A step is a table (p, q, r, s): the pair (x, y) goes on to (p * x + q * y, r * x + s * y).
"""

from restworld.arithmetic import raised
from restworld.numbers import apart

STAY = (1, 0, 0, 1)


def step_of(run):
    """The step from each pair of neighbouring values to the next one."""
    return 0, 1, run[1], run[0]


def both_steps(one, other, base):
    """The other step and then the one, as one step, by the base."""
    p, q, r, s = one
    t, u, v, w = other
    return (p * t + q * v) % base, (p * u + q * w) % base, (r * t + s * v) % base, (r * u + s * w) % base


def many_steps(step, times, base):
    """So many of these steps as one, by the base."""
    total = STAY
    left = times
    while left:
        if left & 1:
            total = both_steps(total, step, base)
        left >>= 1
        if left:
            step = both_steps(step, step, base)
    return total


def stepped(step, pair, base):
    """The pair to which one comes from the pair."""
    p, q, r, s = step
    x, y = pair
    return (p * x + q * y) % base, (r * x + s * y) % base


def pair_at(run, index, base):
    """The rests of the values with this index and the next one."""
    return stepped(many_steps(step_of(run), index, base), (run[2], run[3]), base)


def sum_of_pairs(run, many, base):
    """The rests of the sums of so many first values, and of as many from the second one on."""
    step = step_of(run)
    power = STAY
    total = (0, 0, 0, 0)
    for place in range(many.bit_length() - 1, -1, -1):
        total = _added(total, both_steps(power, total, base), base)
        power = both_steps(power, power, base)
        if many >> place & 1:
            total = _added(both_steps(total, step, base), STAY, base)
            power = both_steps(power, step, base)
    return stepped(total, (run[2], run[3]), base)


def next_round(step, pair, prime, often, known):
    """After how many steps the pair comes again by the power of the prime.

    By the power of one less it does so after the known number of steps, and it
    does come again. So it does so after a number of times of these: each adds
    the same by the prime to what has come, and all such ways to go on come
    round with a divisor of prime ** 2 * (prime - 1) * (prime + 1).
    """
    base = raised(prime, often)
    begin = stepped(STAY, pair, base)
    further = many_steps(step, known, base)
    times = prime * prime * (prime - 1) * (prime + 1)
    for factor in primes_around(prime):
        while times % factor == 0 and stepped(many_steps(further, times // factor, base), begin, base) == begin:
            times //= factor
    return known * times


def primes_around(prime):
    """The primes that divide the prime, one less, or one more."""
    return [prime] + [factor for near in (prime - 1, prime + 1) for factor, _ in apart(near) if factor != prime]


def _added(one, other, base):
    return tuple([(x + y) % base for x, y in zip(one, other)])
