"""Which numbers asks leave; nothing is checked here.

The asks that are True make one fact. Along the numbers that fit it, told by
their places, those that are False are lamps: left are the dark places.
"""

from math import gcd

from restworld.lighting import count_weighed, dark_at, first_dark, last_dark, weighed_facts, without_contained
from restworld.merging import all_merged, along, count_between, least_from


class Leaving:
    """The numbers from low to high that are left by asks."""

    def __init__(self, asks, low, high):
        fact = all_merged([(rest, base) for rest, base, truth in asks if truth])
        if fact is None:
            # Two quarrel: a lamp that is lit at each place leaves none.
            self.fact, lamps = (0, 1), [(0, 1)]
        else:
            self.fact, lamps = fact, [along(fact, (rest, base)) for rest, base, truth in asks if not truth]
        self.dimmed = tuple(without_contained([lamp for lamp in lamps if lamp is not None]))
        rest, step = self.fact
        self.first_place = -((rest - low) // step)
        self.last_place = (high - rest) // step
        self.weighed = None

    def many(self):
        """How many they are."""
        return count_weighed(self.weigh(), self.first_place, self.last_place)

    def first_number(self):
        """The least of them, None if there is none."""
        place = first_dark(self.dimmed, self.first_place)
        return None if place is None or place > self.last_place else self.number_at(place)

    def last_number(self):
        """The greatest of them, None if there is none."""
        place = last_dark(self.dimmed, self.last_place)
        return None if place is None or place < self.first_place else self.number_at(place)

    def number_with(self, index):
        """The one with this index; there are more than so many."""
        return self.number_at(dark_at(self.dimmed, self.first_place, index))

    def by_rests(self, base):
        """A list of how many of them leave each rest by the base."""
        many = [0] * base
        rounds = {}
        for weight, fact in self.weigh():
            times = count_between(fact, self.first_place, self.last_place)
            rest = self.number_at(least_from(fact, self.first_place)) % base
            step = self.fact[1] * fact[1] % base
            shared = gcd(step, base)
            whole, over = divmod(times, base // shared)
            if whole:
                key = (rest % shared, shared)
                rounds[key] = rounds.get(key, 0) + weight * whole
            for _ in range(over):
                many[rest] += weight
                rest = (rest + step) % base
        for (first, shared), whole in rounds.items():
            for rest in range(first, base, shared):
                many[rest] += whole
        return many

    def number_at(self, place):
        """The number at the place."""
        rest, step = self.fact
        return rest + step * place

    def weigh(self):
        """The weighed facts of the dark places, which are asked for often, but found out once."""
        if self.weighed is None:
            self.weighed = weighed_facts(self.dimmed, 0)
        return self.weighed
