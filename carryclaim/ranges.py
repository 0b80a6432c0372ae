"""Ranges of integers with a step (sections 16, 17 and 19 of the document).

A range is a triple (low, high, step); its step is 0 if it has one integer.
"""

from math import gcd

LEAST_VALUE = -10000
GREATEST_VALUE = 10000
ALL_VALUES = (-10000, 10000, 1)
ZERO = (0, 0, 0)


def has(span, n):
    """Tell whether an integer is in a range."""
    low, high, step = span
    if n < low or n > high:
        return False
    return step == 0 or (n - low) % step == 0


def within(first, second):
    """Tell whether every integer of the first range is in the second one."""
    if not has(second, first[0]) or not has(second, first[1]):
        return False
    return first[2] == 0 or first[2] % second[2] == 0


def join(first, second):
    """Return the least range that contains both."""
    low = min(first[0], second[0])
    high = max(first[1], second[1])
    return (low, high, gcd(first[2], second[2], first[0] - second[0]))


def with_ends(low, high, step):
    """Return the range from low to high, whose step is 0 if it has one integer."""
    if low == high:
        return (low, low, 0)
    return (low, high, step)


def at_most(span, n):
    """Return the range of the integers that are at most n, or None if there are none."""
    low, high, step = span
    if n >= high:
        return span
    if n < low:
        return None
    return with_ends(low, n - (n - low) % step, step)


def at_least(span, n):
    """Return the range of the integers that are at least n, or None if there are none."""
    low, high, step = span
    if n <= low:
        return span
    if n > high:
        return None
    return with_ends(n + (high - n) % step, high, step)


def between(span, low, high):
    """Return the range of the integers from low to high, or None if there are none."""
    cut = at_least(span, low)
    if cut is None:
        return None
    return at_most(cut, high)


def other_than(span, n):
    """Return the range without n if n is one of its ends, or None if nothing is left."""
    if n == span[0]:
        return at_least(span, n + 1)
    if n == span[1]:
        return at_most(span, n - 1)
    return span


def widen(old, new, marks):
    """Return a range that contains both, and whose ends that moved lie close to marks."""
    if within(new, old):
        return old
    # The step is not 0: the join has integers of both, and so more than one.
    low, high, step = join(old, new)
    if low < old[0]:
        mark = max([n for n in marks if n <= low])
        low = mark + (low - mark) % step
    if high > old[1]:
        mark = min([n for n in marks if n >= high])
        high = mark - (mark - high) % step
    return (low, high, step)
