"""Reckoning with quotients."""

from math import gcd

from howeverled.checks import need
from howeverled.kinds import is_integer, is_quotient


def quotient_of(top, bottom):
    """The quotient of two integers, bottom not 0."""
    need(is_integer(top), "top")
    need(is_integer(bottom) and bottom != 0, "bottom")
    common = gcd(top, bottom)
    if bottom < 0:
        common = -common
    return (top // common, bottom // common)


def need_both(one, other):
    """Two quotients."""
    need(is_quotient(one), "one")
    need(is_quotient(other), "other")


def plus(one, other):
    """The sum."""
    need_both(one, other)
    return quotient_of(one[0] * other[1] + other[0] * one[1], one[1] * other[1])


def added_up(quotients):
    """The sum of all of them."""
    total = (0, 1)
    for quotient in quotients:
        total = plus(total, quotient)
    return total


def minus(one, other):
    """The other one taken off one."""
    need_both(one, other)
    return quotient_of(one[0] * other[1] - other[0] * one[1], one[1] * other[1])


def times(one, other):
    """The product."""
    need_both(one, other)
    return quotient_of(one[0] * other[0], one[1] * other[1])


def over(one, other):
    """One divided by the other one, which is not nought."""
    need_both(one, other)
    need(other[0] != 0, "other")
    return quotient_of(one[0] * other[1], one[1] * other[0])


def less(one, other):
    """True if one is below the other one."""
    need_both(one, other)
    return one[0] * other[1] < other[0] * one[1]
