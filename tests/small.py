"""All ranges of small integers, and what a range is made of."""

from functools import reduce
from math import gcd


def members(span):
    """The integers of a range, ascending."""
    low, high, step = span
    if step == 0:
        assert low == high
        return [low]
    assert low < high and step > 0 and (high - low) % step == 0
    return list(range(low, high + 1, step))


def least_range(numbers):
    """The range with the fewest integers that contains these; None if there are none."""
    if not numbers:
        return None
    low, high = min(numbers), max(numbers)
    return (low, high, reduce(gcd, [n - low for n in numbers], 0))


def small_ranges(lowest, highest):
    """Every range within these ends."""
    found = []
    for low in range(lowest, highest + 1):
        found.append((low, low, 0))
        for high in range(low + 1, highest + 1):
            for step in range(1, high - low + 1):
                if (high - low) % step == 0:
                    found.append((low, high, step))
    return found
