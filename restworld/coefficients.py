"""Reckoning with the coefficients of sums, lowest first; nothing is checked here.

What these functions take and return may have any size and any degree.
"""


def trimmed(terms):
    """The coefficients as a tuple, without 0s at the end but a single one."""
    many = len(terms)
    while many > 1 and terms[many - 1] == 0:
        many -= 1
    return tuple(terms[:many])


def value_at(terms, number):
    """The value at the number."""
    total = 0
    for coefficient in reversed(terms):
        total = total * number + coefficient
    return total


def rest_at(terms, number, base):
    """The rest of the value at the number."""
    total = 0
    for coefficient in reversed(terms):
        total = (total * number + coefficient) % base
    return total


def slope_of(terms):
    """The coefficients of the slope."""
    if len(terms) == 1:
        return (0,)
    return tuple([power * terms[power] for power in range(1, len(terms))])


def sum_of_both(one, other):
    """The coefficients of the sum of both."""
    total = [0] * max(len(one), len(other))
    for power, coefficient in enumerate(one):
        total[power] += coefficient
    for power, coefficient in enumerate(other):
        total[power] += coefficient
    return trimmed(total)


def difference(one, other):
    """The coefficients of the one less the other one."""
    return sum_of_both(one, [-coefficient for coefficient in other])


def product_of_both(one, other):
    """The coefficients of the product of both."""
    total = [0] * (len(one) + len(other) - 1)
    for power, coefficient in enumerate(one):
        for more, factor in enumerate(other):
            total[power + more] += coefficient * factor
    return trimmed(total)


def led_through(one, other):
    """The coefficients of the one at the value of the other one."""
    total = (0,)
    for coefficient in reversed(one):
        total = sum_of_both(product_of_both(total, other), (coefficient,))
    return total


def steps_of(terms):
    """The steps, as many as there are coefficients."""
    left = list(terms)
    for number in range(1, len(left)):
        # Divides what is left by x - number; the rest of it stays in its place.
        for power in range(len(left) - 2, number - 1, -1):
            left[power] += number * left[power + 1]
    return tuple(left)


def terms_of_steps(steps):
    """The coefficients for these steps."""
    total = (0,)
    for number in range(len(steps) - 1, -1, -1):
        total = sum_of_both(product_of_both(total, (-number, 1)), (steps[number],))
    return total
