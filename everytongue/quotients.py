"""Quotients in lowest terms."""

from math import gcd

from everytongue.kinds import is_integer, is_quotient
from everytongue.refusing import require


def quotient_of(top, bottom):
    """The quotient that stands for top / bottom."""
    require(is_integer(top), "top")
    require(is_integer(bottom) and bottom != 0, "bottom")
    return lowest(top, bottom)


def added(one, other):
    """The sum of two quotients."""
    require(is_quotient(one), "one")
    require(is_quotient(other), "other")
    return plus(one, other)


def multiplied(one, other):
    """The product of two quotients."""
    require(is_quotient(one), "one")
    require(is_quotient(other), "other")
    return times(one, other)


def lowest(top, bottom):
    """The quotient that stands for top / bottom, bottom not 0."""
    shared = gcd(top, bottom)
    if bottom < 0:
        shared = -shared
    return (top // shared, bottom // shared)


def plus(one, other):
    """The sum of what are known to be quotients."""
    return lowest(one[0] * other[1] + other[0] * one[1], one[1] * other[1])


def times(one, other):
    """The product of what are known to be quotients."""
    return lowest(one[0] * other[0], one[1] * other[1])
