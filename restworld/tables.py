"""Tables of the rests that sums leave at all rests by a base; nothing is checked here.

For the difference of two sums with the steps t, the value at x is the sum of
tk * (1 * 2 * .. * k) times how many ways there are to choose k of x things. So
what is asked of a table is asked of its differences: the one at k has to be a
multiple of what the base has in common with 1 * 2 * .. * k.
"""

from math import gcd

from restworld.arithmetic import inverse
from restworld.coefficients import rest_at, steps_of, trimmed


def table_of(terms, base):
    """The rests that the sum leaves at 0, 1 and so on, one for each rest."""
    return tuple([rest_at(terms, number, base) for number in range(base)])


def ranges_of(base, many):
    """From how many integers each of the first steps of a least form is taken."""
    ranges = []
    product = 1
    for k in range(many):
        product = product * max(k, 1) % base
        ranges.append(base // gcd(base, product))
    return ranges


def form_of_sum(terms, base):
    """The least form of the sum."""
    return trimmed([step % most for step, most in zip(steps_of(terms), ranges_of(base, len(terms)))])


def form_of_rests(rests, base):
    """The least form of the sums that leave these rests at 0, 1 and so on, None if there are none."""
    form = []
    product = 1
    for k, difference in enumerate(_differences(rests, base)):
        product = product * max(k, 1) % base
        shared = gcd(base, product)
        if difference % shared:
            return None
        most = base // shared
        form.append(difference // shared * inverse(product // shared, most) % most)
    return trimmed(form)


def _differences(rests, base):
    """The first rest, the first difference, the first difference of these and so on."""
    firsts = []
    row = rests
    while row:
        firsts.append(row[0])
        row = [(row[at + 1] - row[at]) % base for at in range(len(row) - 1)]
    return firsts
