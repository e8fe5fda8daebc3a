"""Where parts meet: circles of lamps, zeros, exponents and runs, and facts of circles."""

from restworld.branches import zero_facts
from restworld.checks import check_lamps, check_sum
from restworld.circle_forms import MOST_CIRCLE
from restworld.circles import Circle, told_circle
from restworld.coefficients import rest_at
from restworld.errors import NotACircle, TooMany
from restworld.light_rounds import light_round
from restworld.lighting import is_lit
from restworld.limits import MOST_FACTS
from restworld.powers import exponents
from restworld.runs import tail_and_rests
from restworld.small_primes import apart_in_small
from restworld.zeros import count_zeros, zeros


def lit_circle(lamps):
    """The circle of the integers from 0 on at which a lamp is lit."""
    check_lamps(lamps)
    base = light_round(lamps, MOST_CIRCLE)
    if base is None:
        raise TooMany(MOST_CIRCLE)
    return told_circle((), 0, base, [number for number in range(base) if is_lit(lamps, number)])


def zero_circle(terms, base):
    """The circle of the integers from 0 on at which the base divides the value."""
    check_sum(terms)
    least = 1
    for prime, often in apart_in_small(base):
        facts = zero_facts(terms, prime, often)
        if not facts:
            return told_circle((), 0, 1, ())
        least *= _round_of_facts(facts, prime)
    if least > MOST_CIRCLE:
        raise TooMany(MOST_CIRCLE)
    return told_circle((), 0, least, [number for number in range(least) if rest_at(terms, number, base) == 0])


def exponent_circle(number, other, base):
    """The circle of all k for which number ** k leaves the rest of the other one."""
    told = exponents(number, other, base)
    if told is None:
        return told_circle((), 0, 1, ())
    first, step = told
    if step == 0:
        return told_circle((first,), first + 1, 1, ())
    return told_circle((), first, step, (first % step,))


def nought_circle(run, base):
    """The circle of the indexes whose values the base divides."""
    tail, rests = tail_and_rests(run, base)
    many = len(rests) - tail
    early = [index for index in range(tail) if rests[index] == 0]
    late = [index % many for index in range(tail, tail + many) if rests[index] == 0]
    return told_circle(early, tail, many, sorted(late))


def facts_of(one):
    """The facts by the base of the circle's least form, one for each rest of it, ascending."""
    if not isinstance(one, Circle):
        raise NotACircle(one)
    return tuple([(rest, one.base) for rest in one.rests])


def lamps_for_zeros(terms, base):
    """The facts by the base, one for each zero, ascending."""
    if count_zeros(terms, base) > MOST_FACTS:
        raise TooMany(MOST_FACTS)
    return tuple([(rest, base) for rest in zeros(terms, base)])


def _round_of_facts(facts, prime):
    """The least power of the prime by which the numbers that fit one of the facts come round.

    The bases are powers of the prime, and no number fits two. Facts of the
    greatest base are put together to those of a lesser one as long as all are.
    """
    kept = facts
    while True:
        most = max([base for _, base in kept])
        if most == 1:
            return most
        less = most // prime
        together = {}
        for rest, base in kept:
            if base == most:
                fact = (rest % less, less)
                together[fact] = together.get(fact, 0) + 1
        if min(list(together.values())) < prime:
            return most
        kept = [fact for fact in kept if fact[1] < most] + list(together)
