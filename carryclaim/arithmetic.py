"""What an operation makes of two ranges (section 18 of the document).

Each function raw_.. returns the range of the results before it is cut to the
range of values, or None if there is no result.
"""

from math import gcd

from carryclaim.ranges import GREATEST_VALUE, LEAST_VALUE, at_least, at_most, between, has, with_ends


def raw_sum(first, second):
    return (first[0] + second[0], first[1] + second[1], gcd(first[2], second[2]))


def raw_difference(first, second):
    return (first[0] - second[1], first[1] - second[0], gcd(first[2], second[2]))


def raw_product(first, second):
    products = [left * right for left in first[:2] for right in second[:2]]
    step = gcd(first[0] * second[2], second[0] * first[2], first[2] * second[2])
    return (min(products), max(products), step)


def raw_quotient(first, second):
    parts = [part for part in (at_least(second, 1), at_most(second, -1)) if part is not None]
    quotients = [left // right for left in first[:2] for part in parts for right in part[:2]]
    if quotients == []:
        return None
    return with_ends(min(quotients), max(quotients), 1)


def raw_remainder(first, second):
    low, high, step = second
    if step != 0:
        return with_ends(min(0, low + 1), max(0, high - 1), 1)
    if low == 0:
        return None
    return remainder_by_one(first, low)


def remainder_by_one(first, divisor):
    """Return the range of the remainders by one integer other than 0."""
    low, high, step = first
    quotient = low // divisor
    if step % divisor == 0:
        return (low % divisor, low % divisor, 0)
    if high // divisor == quotient:
        return (low - quotient * divisor, high - quotient * divisor, step)
    return (min(0, divisor + 1), max(0, divisor - 1), 1)


RAW_RANGES = {
    "+": raw_sum,
    "-": raw_difference,
    "*": raw_product,
    "/": raw_quotient,
    "mod": raw_remainder,
}


def combine(sign, first, second):
    """Return the range of the results, or None, and the kinds of failures."""
    make_raw = RAW_RANGES[sign]
    raw = make_raw(first, second)
    kinds = []
    if sign in ("/", "mod") and has(second, 0):
        kinds.append("division")
    if raw is None:
        return (None, tuple(kinds))
    if raw[0] < LEAST_VALUE or raw[1] > GREATEST_VALUE:
        kinds.append("overflow")
    return (between(raw, LEAST_VALUE, GREATEST_VALUE), tuple(kinds))
