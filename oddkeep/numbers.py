"""Exact numbers: tuples (n, d) in lowest terms, with d at least 1."""

from math import gcd

SHORT_LIMIT = 1000


def is_whole(value):
    """Tell whether the value is a whole number; True and False are none."""
    return isinstance(value, int) and not isinstance(value, bool)


def is_number(value):
    """Tell whether the value, which may be of any kind, is a number."""
    if not isinstance(value, tuple) or len(value) != 2:
        return False
    n, d = value
    return is_whole(n) and is_whole(d) and d >= 1 and gcd(n, d) == 1


def is_short(value):
    """Tell whether the value, which may be of any kind, is a short number."""
    if not is_number(value):
        return False
    n, d = value
    return abs(n) < SHORT_LIMIT and d < SHORT_LIMIT


def number(n, d):
    """Return the number that n divided by d is; d is not 0."""
    shared = gcd(n, d)
    if d < 0:
        shared = -shared
    return (n // shared, d // shared)


def compare(a, b):
    """Return -1, 0 or 1: a is less than b, equal to it, or greater."""
    left = a[0] * b[1]
    right = b[0] * a[1]
    if left < right:
        return -1
    if left > right:
        return 1
    return 0


def plus(a, b):
    """Return the sum."""
    return number(a[0] * b[1] + b[0] * a[1], a[1] * b[1])


def minus(a, b):
    """Return the difference: a less b."""
    return number(a[0] * b[1] - b[0] * a[1], a[1] * b[1])


def times(a, b):
    """Return the product."""
    return number(a[0] * b[0], a[1] * b[1])


def divided(a, b):
    """Return the quotient: a divided by b, which is not 0."""
    return number(a[0] * b[1], a[1] * b[0])


def total(numbers):
    """Return the sum of a list of numbers."""
    whole = (0, 1)
    for part in numbers:
        whole = plus(whole, part)
    return whole
