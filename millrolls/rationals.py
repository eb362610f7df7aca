"""Fractions: tuples (numerator, denominator) in lowest terms, the denominator at least 1."""

from math import gcd


def common_divisor(first, second):
    """Return the greatest common divisor of two integers, at least 0."""
    return gcd(first, second)


def made(top, bottom):
    """Return the fraction of two integers, the second one not 0."""
    divisor = common_divisor(top, bottom)
    # The divisor takes the sign of the bottom, so that the bottom loses it.
    if bottom < 0:
        divisor = -divisor
    return (top // divisor, bottom // divisor)


def added(first, second):
    """Return the sum of two fractions."""
    return made(first[0] * second[1] + second[0] * first[1], first[1] * second[1])


def taken(first, second):
    """Return the first fraction less the second one."""
    return made(first[0] * second[1] - second[0] * first[1], first[1] * second[1])


def times(first, second):
    """Return the product of two fractions."""
    return made(first[0] * second[0], first[1] * second[1])


def divided(first, second):
    """Return the first fraction divided by the second one, which is not 0."""
    return made(first[0] * second[1], first[1] * second[0])


def is_less(first, second):
    """Return whether the first fraction is less than the second one."""
    # Denominators are at least 1, so multiplying by them keeps the order.
    return first[0] * second[1] < second[0] * first[1]


def floor_of(one):
    """Return the greatest integer that is at most a fraction."""
    return one[0] // one[1]


def ceiling_of(one):
    """Return the least integer that is at least a fraction."""
    # Only // rounds exactly at every size; it rounds down, so both signs are turned.
    return -(-one[0] // one[1])
