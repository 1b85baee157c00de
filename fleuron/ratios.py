"""Fractions: tuples (p, q) in lowest terms, with q above 0."""

from math import gcd

from fleuron.errors import ZeroDivisor


def ratio(p, q=1):
    """Return the fraction p / q."""
    if q == 0:
        raise ZeroDivisor()
    divisor = gcd(p, q)
    if q < 0:
        divisor = -divisor
    return (p // divisor, q // divisor)


def add(a, b):
    """Return the fraction a + b."""
    return ratio(a[0] * b[1] + b[0] * a[1], a[1] * b[1])


def subtract(a, b):
    """Return the fraction a - b."""
    return ratio(a[0] * b[1] - b[0] * a[1], a[1] * b[1])


def multiply(a, b):
    """Return the fraction a * b."""
    return ratio(a[0] * b[0], a[1] * b[1])


def divide(a, b):
    """Return the fraction a / b."""
    return ratio(a[0] * b[1], a[1] * b[0])


def compare(a, b):
    """Return -1, 0 or 1 as a is less than, equal to or greater than b."""
    left = a[0] * b[1]
    right = b[0] * a[1]
    if left < right:
        return -1
    if left > right:
        return 1
    return 0


def nearest(a):
    """Return the closest integer, of two equally close ones the greater one."""
    return (2 * a[0] + a[1]) // (2 * a[1])


def down(a):
    """Return the greatest integer that is at most a."""
    return a[0] // a[1]
