"""Sets of integers from 0 on as the bits of one integer; nothing is checked here."""

CHUNK = 1024


def bits_of(numbers):
    """The integer whose bits at these numbers are set."""
    chunks = {}
    for number in numbers:
        chunk = number // CHUNK
        chunks[chunk] = chunks.get(chunk, 0) | 1 << number % CHUNK
    bits = 0
    for chunk in range(max(list(chunks), default=-1), -1, -1):
        bits = bits << CHUNK | chunks.get(chunk, 0)
    return bits


def numbers_of(bits):
    """The numbers whose bits are set, ascending."""
    found = []
    begin = 0
    mask = (1 << CHUNK) - 1
    left = bits
    while left:
        chunk = left & mask
        while chunk:
            lowest = chunk & -chunk
            found.append(begin + lowest.bit_length() - 1)
            chunk ^= lowest
        left >>= CHUNK
        begin += CHUNK
    return found


def closed_under(bits, step, length):
    """The bits below the length, with all that are any number of steps behind one of them."""
    mask = (1 << length) - 1
    total = bits & mask
    while step < length:
        total |= total << step & mask
        step += step
    return total


def least_by_rest(seeds, steps, base):
    """For each rest by the base the least number of the set that holds the seeds and, with a number, this and a step.

    Told as a dict, for the rests that come. The set counts only up to multiples
    of the base, so no number is looked at behind a lesser one with its rest.
    """
    mask = (1 << base) - 1
    found = {}
    unseen = mask
    waiting = seeds
    begin = 0
    while waiting:
        fresh = waiting & unseen
        while fresh:
            lowest = fresh & -fresh
            rest = lowest.bit_length() - 1
            found[rest] = begin + rest
            unseen ^= lowest
            waiting |= steps << rest
            fresh = waiting & unseen
        waiting >>= base
        begin += base
    return found
