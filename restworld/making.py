"""The numbers that are sums of numbers of a circle; nothing is checked here.

All is told by rests by the least number of the circle above 0, the unit: with
a number, each that is greater by the unit is made, too. What is made with a
number from the start on is made as well if it is greater by the base; so only
the first number for each rest of the circle is taken.
"""

from restworld.bit_rows import bits_of, least_by_rest


class Making:
    """For each rest by the unit the least single number, sum of two or more, and made number.

    The circle has a number above 0; early ones and first ones are ascending lists.
    """

    def __init__(self, early, firsts, base):
        few = [number for number in early if number > 0]
        endless = [number if number > 0 else base for number in firsts]
        self.unit = min(few + endless)
        few_bits, endless_bits = bits_of(few), bits_of(endless)
        all_bits = few_bits | endless_bits
        further = 1 << base
        self.single = _lesser(
            least_by_rest(few_bits, 0, self.unit), least_by_rest(endless_bits, further, self.unit)
        )
        self.composed = _lesser(
            least_by_rest(_sums_of_two(few, few_bits), few_bits, self.unit),
            least_by_rest(_sums_of_two(endless, all_bits), all_bits | further, self.unit),
        )
        self.reached = _lesser(self.single, self.composed)
        self.reached[0] = 0

    def common(self):
        """The greatest integer that divides all numbers of the circle."""
        return self.unit // len(self.reached)

    def greatest_missing(self):
        """The greatest multiple of `common` that is not made, something below 0 if all from 0 on are."""
        return max(list(self.reached.values())) - self.unit

    def made_below(self, bound):
        """The made numbers below the bound, ascending."""
        return sorted([number for least in list(self.reached.values()) for number in range(least, bound, self.unit)])

    def how_many_missing(self):
        """How many integers from 1 on are not made; `common` is 1."""
        return sum([least // self.unit for least in list(self.reached.values())])

    def indivisible(self):
        """The numbers of the circle that are no sum of two or more, ascending."""
        return sorted([
            number for rest, number in list(self.single.items())
            if rest not in self.composed or number < self.composed[rest]
        ])


def _sums_of_two(numbers, bits):
    total = 0
    for number in numbers:
        total |= bits << number
    return total


def _lesser(one, other):
    """For each rest the lesser one of what both tell."""
    total = {rest: number for rest, number in one.items()}
    for rest, number in other.items():
        total[rest] = min(number, total.get(rest, number))
    return total
