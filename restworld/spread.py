"""All zeros of a sum by all powers of a prime at once; nothing is checked here.

Each branch is followed until none is left in it, or until it holds just one
endless zero. That is seen at the sum without its manifold zeros: where its
branch has the degree 1 by the prime, there is one endless zero and nothing
else. The value there, (x - a) ** m times something that the prime no longer
divides further, tells how many zeros there are by all greater powers.
"""

from restworld.arithmetic import inverse, raised
from restworld.branches import divided_out, held_in, led_on, reduced, zeros_by_prime
from restworld.coefficients import rest_at, slope_of
from restworld.squarefree import radical


class Knot:
    """All numbers rest + y * prime ** power, and from which power of the prime on not all are zeros.

    They are so by all powers above `known`, up to `held`.
    """

    def __init__(self, rest, power, known, held):
        self.rest = rest
        self.power = power
        self.known = known
        self.held = held


class Ending:
    """A knot with one endless zero alone, and the branch of the plain sum that has it."""

    def __init__(self, knot, manifold, plain):
        self.knot = knot
        self.manifold = manifold
        self.depth = knot.held - manifold * knot.power
        self.plain = plain

    def exponent(self, power):
        """By which power of the prime so many zeros are told for its power above what the knot holds."""
        return power + (self.depth - power) // self.manifold

    def rest_by(self, prime, often):
        """The rest of the endless zero by the power of the prime."""
        number = _lifted(self.plain, prime, max(often - self.knot.power, 1))
        return (self.knot.rest + raised(prime, self.knot.power) * number) % raised(prime, often)


class Spread:
    """The knots of a sum that is not nought at a prime, and those with which it does not end."""

    def __init__(self, terms, prime):
        self.prime = prime
        self.knots = []
        self.endings = []
        waiting = [(terms, radical(terms), 0, 0, -1)]
        while waiting:
            branch, plain, rest, power, known = waiting.pop()
            held = held_in(branch, prime)
            branch = divided_out(branch, prime, held)
            plain = divided_out(plain, prime, held_in(plain, prime))
            knot = Knot(rest, power, known, max(known, 0) + held)
            self.knots.append(knot)
            if len(reduced(plain, prime)) == 2:
                self.endings.append(Ending(knot, len(reduced(branch, prime)) - 1, plain))
                continue
            for number in zeros_by_prime(plain, prime):
                further = rest + number * raised(prime, power)
                waiting.append(
                    (led_on(branch, number, prime), led_on(plain, number, prime), further, power + 1, knot.held)
                )

    def settled(self):
        """The power of the prime from which on nothing but the endless zeros tells how many zeros there are."""
        return max([knot.held for knot in self.knots]) + 1

    def count(self, power):
        """How many zeros there are by the prime to this power."""
        many = 0
        for knot in self.knots:
            if knot.known < power <= knot.held:
                many += raised(self.prime, power - knot.power)
        for ending in self.endings:
            if power > ending.knot.held:
                many += raised(self.prime, ending.exponent(power))
        return many

    def count_by_rule(self, power):
        """How many the rule tells."""
        return sum([raised(self.prime, ending.exponent(power)) for ending in self.endings])


def _lifted(plain, prime, often):
    """The rest by the power of the prime of the only zero of a sum whose degree by the prime is 1."""
    rests = reduced(plain, prime)
    number = -rests[0] * inverse(rests[1], prime) % prime
    base = prime
    most = raised(prime, often)
    while base < most:
        base = min(base * base, most)
        terms = [coefficient % base for coefficient in plain]
        leaning = inverse(rest_at(slope_of(terms), number, base), base)
        number = (number - rest_at(terms, number, base) * leaning) % base
    return number
