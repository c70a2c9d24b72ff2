"""Exact fractions: pairs (top, bottom) in lowest terms, the bottom from 1 on."""

from math import gcd

ZERO = (0, 1)
ONE = (1, 1)


def lowest(top, bottom):
    """The fraction top by bottom, the bottom being above 0."""
    shared = gcd(top, bottom)
    return (top // shared, bottom // shared)


def plus(one, other):
    """The sum of two fractions."""
    top = one[0] * other[1] + other[0] * one[1]
    bottom = one[1] * other[1]
    shared = gcd(top, bottom)
    return (top // shared, bottom // shared)


def minus(one, other):
    """One fraction less another one."""
    top = one[0] * other[1] - other[0] * one[1]
    bottom = one[1] * other[1]
    shared = gcd(top, bottom)
    return (top // shared, bottom // shared)


def times(one, other):
    """The product of two fractions."""
    top = one[0] * other[0]
    bottom = one[1] * other[1]
    shared = gcd(top, bottom)
    return (top // shared, bottom // shared)


def over(one, other):
    """One fraction by another one that is not 0."""
    if other[0] < 0:
        return lowest(-one[0] * other[1], -one[1] * other[0])
    return lowest(one[0] * other[1], one[1] * other[0])


def negative(one):
    """A fraction with the other sign."""
    return (-one[0], one[1])


def total(fractions):
    """The sum of all fractions in a list."""
    found = ZERO
    for fraction in fractions:
        found = plus(found, fraction)
    return found


def is_less(one, other):
    """Whether one fraction is below another one; they need not be in lowest terms."""
    return one[0] * other[1] < other[0] * one[1]


def lesser(one, other):
    """The lesser one of two fractions."""
    if is_less(other, one):
        return other
    return one


def greater(one, other):
    """The greater one of two fractions."""
    if is_less(one, other):
        return other
    return one


def sooner(one, other):
    """The lesser one of two moments, the first of which is perhaps None, for never."""
    if one is None:
        return other
    return lesser(one, other)
