"""Exact fractions, as pairs (top, bottom) in lowest terms."""

from math import gcd

from odds.errors import InvalidNumeral, InvalidRatio, ZeroDivisor
from odds.numerals import from_digits, to_digits

ZERO = (0, 1)
ONE = (1, 1)


def ratio(top, bottom):
    """Return the quotient of two integers."""
    if bottom == 0:
        raise ZeroDivisor("the bottom of a ratio is zero")
    shared = gcd(top, bottom)
    if bottom < 0:
        shared = -shared
    return (top // shared, bottom // shared)


def plus(a, b):
    """Return the sum of two ratios."""
    return ratio(a[0] * b[1] + b[0] * a[1], a[1] * b[1])


def minus(a, b):
    """Return the difference of two ratios."""
    return ratio(a[0] * b[1] - b[0] * a[1], a[1] * b[1])


def times(a, b):
    """Return the product of two ratios."""
    return ratio(a[0] * b[0], a[1] * b[1])


def over(a, b):
    """Return the quotient of two ratios."""
    return ratio(a[0] * b[1], a[1] * b[0])


def compare(a, b):
    """Return -1, 0 or 1 if the first ratio is less, equal or greater."""
    left = a[0] * b[1]
    right = b[0] * a[1]
    if left < right:
        return -1
    if left > right:
        return 1
    return 0


def plus_all(ratios):
    """Return the sum of a list of ratios."""
    total = ZERO
    for r in ratios:
        total = plus(total, r)
    return total


def times_all(ratios):
    """Return the product of a list of ratios."""
    total = ONE
    for r in ratios:
        total = times(total, r)
    return total


def rest(r):
    """Return one minus a ratio."""
    return minus(ONE, r)


def is_chance(r):
    """Tell whether a ratio is at least 0 and at most 1."""
    return 0 <= r[0] <= r[1]


def write_ratio(r):
    """Return the written form of a ratio."""
    top, bottom = r
    if bottom == 1:
        return to_digits(top)
    return to_digits(top) + "/" + to_digits(bottom)


def read_ratio(text):
    """Return the ratio whose written form is the text."""
    top_text, slash, bottom_text = text.partition("/")
    try:
        top = from_digits(top_text)
        bottom = from_digits(bottom_text) if slash else 1
    except InvalidNumeral:
        raise InvalidRatio("a part of the ratio is not a number") from None
    if slash and (bottom < 2 or gcd(top, bottom) > 1):
        raise InvalidRatio("the ratio is not in lowest terms")
    return (top, bottom)
